/- What the proof stands on: LRung, LBegin, LIter, LMath, LProd, Api, LNews, LClamp, LMul, Prime, PrimeUse, LCert, LPub, LShare, LClamps, RRow, RStep, RAny, LIgnores, QRD, QRC, QCK, QRN. -/
import Derived.Test.YtcgkajlehdgpoaaGreatDoorBaseM
import Derived.Test.YtcgkajlehdgpoaaGreatDoorHHmacM
import Derived.Test.YtcgkajlehdgpoaaGreatDoorLStep
import Derived.Test.YtcgkajlehdgpoaaGreatDoorQCAM
import Derived.LoopIn
import Derived.LoopNIn
import Derived.OwnWalkIn
import Derived.RangeFuncBound
import Derived.RangeFuncCalls
import Derived.RangeFuncLeaves
import Derived.RangeFuncNested
import Derived.Shelf.Abstract
import Derived.Shelf.RegionOpen
import Derived.TacticsInMore
namespace Go.Proofs.YtcgkajlehdgpoaaGreatDoor
open Go.RowKit
set_option maxRecDepth 20000 in
set_option maxHeartbeats 4000000 in
theorem swap_any (xl zl xh zh g:Nat) (w:World) (hp:RW w g 0 (c8 xl zl)) (hq:RW w g 8 (c8 xh zh)) :
 Calls Tryz.prog 124 #[.pointer (some ⟨g,0,none⟩)] w fun e w'=>e = .returned (.tuple #[])∧Out g 0 16 w w'∧RW w' g 0 (c8 xh zh)∧RW w' g 8 (c8 xl zl):=by
 have hgl:=hp.lt
 go_enter Tryz.func124,Tryz.ntmps124
 go_wp2
 have hdrew:Below w.heap.size w w.drew:=(Below.refl _ _).drew
 replace hp:=hp.still hdrew
 replace hq:=hq.still hdrew
 refine wp_region_noPanic ?_
 refine wp_region_held_drew (S:=fun _=>True) (by kernel_rfl) trivial (fun _ => ?_)
 generalize w.drew=Vs at *
 refine wpAnyH_take (i:=0) (oi:=oN 2 (Op.move (oT 0)) 192 "climb.go:30" #[]) (v := ?vs1) rfl (by kernel_rfl) (by kernel_rfl) (by kernel_rfl) (fun _ _ _ h=>h) (Or.inl ⟨by rfl,?hs1⟩) trivial ?rs1
 case hs1 =>
  intro w hSw
  go_simp
  try with_reducible rfl
 (try simp only [pS])
 refine wpAnyH_take (i:=1) (oi:=oN 3 (Op.move (oT 0)) 192 "climb.go:30" #[jO 12]) (v := ?vs2) rfl (by kernel_rfl) (by kernel_rfl) (by kernel_rfl) (fun _ _ _ h=>h) (Or.inl ⟨by rfl,?hs2⟩) trivial ?rs2
 case hs2 =>
  intro w hSw
  go_simp
  try with_reducible rfl
 (try simp only [pS])
 refine wpAnyH_take (i:=2) (oi:=oN 4 (Op.move (oT 0)) 192 "climb.go:30" #[]) (v := ?vs3) rfl (by kernel_rfl) (by kernel_rfl) (by kernel_rfl) (fun _ _ _ h=>h) (Or.inl ⟨by rfl,?hs3⟩) trivial ?rs3
 case hs3 =>
  intro w hSw
  go_simp
  try with_reducible rfl
 (try simp only [pS])
 refine wpAnyH_take (i:=3) (oi:=oN 5 (Op.nilCheck (oT 4)) 0 "climb.go:30" #[jD 2]) (v := ?vs4) rfl (by kernel_rfl) (by kernel_rfl) (by kernel_rfl) (fun _ _ _ h=>h) (Or.inl ⟨by rfl,?hs4⟩) trivial ?rs4
 case hs4 =>
  intro w hSw
  go_simp
  try with_reducible rfl
 (try simp only [pS])
 refine wpAnyH_take (i:=4) (oi:=oN 6 (Op.fieldAddr 148 (oT 5) 1) 0 "climb.go:30" #[jD 3]) (v := ?vs5) rfl (by kernel_rfl) (by kernel_rfl) (by kernel_rfl) (fun _ _ _ h=>h) (Or.inl ⟨by rfl,?hs5⟩) trivial ?rs5
 case hs5 =>
  intro w hSw
  go_simp
  try with_reducible rfl
 (try simp only [pS])
 refine wpAnyH_take (i:=6) (oi:=oN 8 (Op.move (oT 0)) 192 "climb.go:30" #[]) (v := ?vs6) rfl (by kernel_rfl) (by kernel_rfl) (by kernel_rfl) (fun _ _ _ h=>h) (Or.inl ⟨by rfl,?hs6⟩) trivial ?rs6
 case hs6 =>
  intro w hSw
  go_simp
  try with_reducible rfl
 (try simp only [pS])
 refine wpAnyH_take (i:=7) (oi:=oN 9 (Op.nilCheck (oT 8)) 0 "climb.go:30" #[jD 6]) (v := ?vs7) rfl (by kernel_rfl) (by kernel_rfl) (by kernel_rfl) (fun _ _ _ h=>h) (Or.inl ⟨by rfl,?hs7⟩) trivial ?rs7
 case hs7 =>
  intro w hSw
  go_simp
  try with_reducible rfl
 (try simp only [pS])
 refine wpAnyH_take (i:=8) (oi:=oN 10 (Op.fieldAddr 148 (oT 9) 0) 0 "climb.go:30" #[jD 7]) (v := ?vs8) rfl (by kernel_rfl) (by kernel_rfl) (by kernel_rfl) (fun _ _ _ h=>h) (Or.inl ⟨by rfl,?hs8⟩) trivial ?rs8
 case hs8 =>
  intro w hSw
  go_simp
  try with_reducible rfl
 (try simp only [pS])
 refine wpAnyH_ready (rs:=[5,9]) (by kernel_rfl) (by simp) ?_
 refine AllReadyH.cons (o:=oN 7 (Op.load 146 (oT 6)) 146 "climb.go:30" #[jD 4]) rfl (fun K hK => ?_) (AllReadyH.cons (o:=oN 11 (Op.load 146 (oT 10)) 146 "climb.go:30" #[jD 8]) rfl (fun K hK => ?_) (AllReadyH.nil))
 · rw [if_pos (by rfl)]
   refine wp_load_mid 146 _ rfl g 8 rfl (c8 xh zh) _ hq.range Tryz.underlying146 rfl info8 ?_
   refine hK.out _ _ trivial (fun h => ?_)
   clear h hK K
   rw [show Value.agg (c8 xh zh).toArray=ratV xh zh from rfl]
   (try simp only [pS])
   refine wpAnyH_ready (rs:=[9]) (by kernel_rfl) (by simp) ?_
   refine AllReadyH.cons (o:=oN 11 (Op.load 146 (oT 10)) 146 "climb.go:30" #[jD 8]) rfl (fun K hK => ?_) (AllReadyH.nil)
   rw [if_pos (by rfl)]
   refine wp_load_mid 146 _ rfl g 0 rfl (c8 xl zl) _ hp.range Tryz.underlying146 rfl info8 ?_
   refine hK.out _ _ trivial (fun h => ?_)
   clear h hK K
   rw [show Value.agg (c8 xl zl).toArray=ratV xl zl from rfl]
   (try simp only [pS])
   refine wpAnyH_take (i:=10) (oi:=oN 12 (Op.nilCheck (oT 2)) 0 "climb.go:30" #[jD 0,jP 0,jT 1,jP 2,jP 3,jP 4,jP 5,jT 6,jU 7,jU 8,jP 9]) (v := ?vs11) rfl (by kernel_rfl) (by kernel_rfl) (by kernel_rfl) (fun _ _ _ h=>h) (Or.inl ⟨by rfl,?hs11⟩) trivial ?rs11
   case hs11 =>
    intro w hSw
    go_simp
    try with_reducible rfl
   (try simp only [pS])
   refine wpAnyH_take (i:=11) (oi:=oN 13 (Op.fieldAddr 148 (oT 12) 0) 0 "climb.go:30" #[jD 10,jP 0,jT 1,jP 2,jP 3,jP 4,jP 5,jT 6,jU 7,jU 8,jP 9]) (v := ?vs12) rfl (by kernel_rfl) (by kernel_rfl) (by kernel_rfl) (fun _ _ _ h=>h) (Or.inl ⟨by rfl,?hs12⟩) trivial ?rs12
   case hs12 =>
    intro w hSw
    go_simp
    try with_reducible rfl
   (try simp only [pS])
   refine wpAnyH_ready (rs:=[12]) (by kernel_rfl) (by simp) ?_
   refine AllReadyH.cons (o:=oS (Op.store 146 (oT 13) (oT 7)) "climb.go:30" #[jD 11,jD 5,jP 0,jT 1,jP 2,jP 3,jP 4,jP 5,jT 6,jU 7,jU 8,jP 9]) rfl (fun K hK => ?_) (AllReadyH.nil)
   rw [if_pos (by rfl)]
   refine wp_store_mid 146 _ _ rfl g 0 (c8 xh zh).toArray rfl rfl hp.there info8 (one8 _ _) ?_
   have Os13:=Out.setCells (b:=g) (o:=0) (n:=(c8 xh zh).length) Vs (c8 xh zh) (Nat.le_refl _) (Nat.le_refl _)
   replace hp:=hp.stored (c8 xh zh) rfl
   replace hq:=hq.far g 0 (c8 xh zh) (by simp [c8,c4])
   obtain ⟨ws13,hws13⟩:∃ W,Vs.setCells g 0 (c8 xh zh)=W:=⟨_,rfl⟩
   rw [hws13] at hq
   rw [hws13] at hp
   rw [hws13] at Os13
   rw [show Vs.setCells g 0 (c8 xh zh).toArray.toList=ws13 from hws13]
   refine hK.out _ _ trivial (fun h => ?_)
   clear h hK K hws13
   (try dsimp only [Act.put])
   refine wpAnyH_take (i:=13) (oi:=oN 14 (Op.nilCheck (oT 3)) 0 "climb.go:30" #[jD 1,jP 0,jP 1,jP 2,jP 3,jP 4,jP 5,jP 6,jP 7,jP 8,jP 9,jP 10,jP 11,jP 12]) (v := ?vs14) rfl (by kernel_rfl) (by kernel_rfl) (by kernel_rfl) (fun _ _ _ h=>h) (Or.inl ⟨by rfl,?hs14⟩) trivial ?rs14
   case hs14 =>
    intro w hSw
    go_simp
    try with_reducible rfl
   (try simp only [pS])
   refine wpAnyH_take (i:=14) (oi:=oN 15 (Op.fieldAddr 148 (oT 14) 1) 0 "climb.go:30" #[jD 13,jP 0,jP 1,jP 2,jP 3,jP 4,jP 5,jP 6,jP 7,jP 8,jP 9,jP 10,jP 11,jP 12]) (v := ?vs15) rfl (by kernel_rfl) (by kernel_rfl) (by kernel_rfl) (fun _ _ _ h=>h) (Or.inl ⟨by rfl,?hs15⟩) trivial ?rs15
   case hs15 =>
    intro w hSw
    go_simp
    try with_reducible rfl
   (try simp only [pS])
   refine wpAnyH_ready (rs:=[15]) (by kernel_rfl) (by simp) ?_
   refine AllReadyH.cons (o:=oS (Op.store 146 (oT 15) (oT 11)) "climb.go:30" #[jD 14,jD 9,jC 12,jP 0,jP 1,jP 2,jP 3,jP 4,jP 5,jP 6,jP 7,jP 8,jP 9,jP 10,jP 11,jP 12]) rfl (fun K hK => ?_) (AllReadyH.nil)
   rw [if_pos (by rfl)]
   refine wp_store_mid 146 _ _ rfl g 8 (c8 xl zl).toArray rfl rfl hq.there info8 (one8 _ _) ?_
   have Os16:=Out.setCells (b:=g) (o:=8) (n:=(c8 xl zl).length) ws13 (c8 xl zl) (Nat.le_refl _) (Nat.le_refl _)
   replace hq:=hq.stored (c8 xl zl) rfl
   replace hp:=hp.far g 8 (c8 xl zl) (by simp [c8,c4])
   obtain ⟨ws16,hws16⟩:∃ W,ws13.setCells g 8 (c8 xl zl)=W:=⟨_,rfl⟩
   rw [hws16] at hp
   rw [hws16] at hq
   rw [hws16] at Os16
   rw [show ws13.setCells g 8 (c8 xl zl).toArray.toList=ws16 from hws16]
   refine hK.out _ _ trivial (fun h => ?_)
   clear h hK K hws16
   (try dsimp only [Act.put])
   refine wpAnyH_done (by kernel_rfl) ?_ _
   refine NoPanic.normal ?_
   go_wp2
   exact bodyPost_end (results_none Tryz.results124 _ _ _) rfl ⟨rfl,((Out.of_below hdrew hgl).trans (Out.wide (by assumption) (by decide) (by simp [c8,c4]))).trans (Out.wide (by assumption) (by decide) (by simp [c8,c4])),hp,hq⟩
 · rw [if_pos (by rfl)]
   refine wp_load_mid 146 _ rfl g 0 rfl (c8 xl zl) _ hp.range Tryz.underlying146 rfl info8 ?_
   refine hK.out _ _ trivial (fun h => ?_)
   clear h hK K
   rw [show Value.agg (c8 xl zl).toArray=ratV xl zl from rfl]
   (try simp only [pS])
   refine wpAnyH_ready (rs:=[5]) (by kernel_rfl) (by simp) ?_
   refine AllReadyH.cons (o:=oN 7 (Op.load 146 (oT 6)) 146 "climb.go:30" #[jD 4]) rfl (fun K hK => ?_) (AllReadyH.nil)
   rw [if_pos (by rfl)]
   refine wp_load_mid 146 _ rfl g 8 rfl (c8 xh zh) _ hq.range Tryz.underlying146 rfl info8 ?_
   refine hK.out _ _ trivial (fun h => ?_)
   clear h hK K
   rw [show Value.agg (c8 xh zh).toArray=ratV xh zh from rfl]
   (try simp only [pS])
   refine wpAnyH_take (i:=10) (oi:=oN 12 (Op.nilCheck (oT 2)) 0 "climb.go:30" #[jD 0,jP 0,jT 1,jP 2,jP 3,jP 4,jP 5,jT 6,jU 7,jU 8,jP 9]) (v := ?vs19) rfl (by kernel_rfl) (by kernel_rfl) (by kernel_rfl) (fun _ _ _ h=>h) (Or.inl ⟨by rfl,?hs19⟩) trivial ?rs19
   case hs19 =>
    intro w hSw
    go_simp
    try with_reducible rfl
   (try simp only [pS])
   refine wpAnyH_take (i:=11) (oi:=oN 13 (Op.fieldAddr 148 (oT 12) 0) 0 "climb.go:30" #[jD 10,jP 0,jT 1,jP 2,jP 3,jP 4,jP 5,jT 6,jU 7,jU 8,jP 9]) (v := ?vs20) rfl (by kernel_rfl) (by kernel_rfl) (by kernel_rfl) (fun _ _ _ h=>h) (Or.inl ⟨by rfl,?hs20⟩) trivial ?rs20
   case hs20 =>
    intro w hSw
    go_simp
    try with_reducible rfl
   (try simp only [pS])
   refine wpAnyH_ready (rs:=[12]) (by kernel_rfl) (by simp) ?_
   refine AllReadyH.cons (o:=oS (Op.store 146 (oT 13) (oT 7)) "climb.go:30" #[jD 11,jD 5,jP 0,jT 1,jP 2,jP 3,jP 4,jP 5,jT 6,jU 7,jU 8,jP 9]) rfl (fun K hK => ?_) (AllReadyH.nil)
   rw [if_pos (by rfl)]
   refine wp_store_mid 146 _ _ rfl g 0 (c8 xh zh).toArray rfl rfl hp.there info8 (one8 _ _) ?_
   have Os21:=Out.setCells (b:=g) (o:=0) (n:=(c8 xh zh).length) Vs (c8 xh zh) (Nat.le_refl _) (Nat.le_refl _)
   replace hp:=hp.stored (c8 xh zh) rfl
   replace hq:=hq.far g 0 (c8 xh zh) (by simp [c8,c4])
   obtain ⟨ws21,hws21⟩:∃ W,Vs.setCells g 0 (c8 xh zh)=W:=⟨_,rfl⟩
   rw [hws21] at hq
   rw [hws21] at hp
   rw [hws21] at Os21
   rw [show Vs.setCells g 0 (c8 xh zh).toArray.toList=ws21 from hws21]
   refine hK.out _ _ trivial (fun h => ?_)
   clear h hK K hws21
   (try dsimp only [Act.put])
   refine wpAnyH_take (i:=13) (oi:=oN 14 (Op.nilCheck (oT 3)) 0 "climb.go:30" #[jD 1,jP 0,jP 1,jP 2,jP 3,jP 4,jP 5,jP 6,jP 7,jP 8,jP 9,jP 10,jP 11,jP 12]) (v := ?vs22) rfl (by kernel_rfl) (by kernel_rfl) (by kernel_rfl) (fun _ _ _ h=>h) (Or.inl ⟨by rfl,?hs22⟩) trivial ?rs22
   case hs22 =>
    intro w hSw
    go_simp
    try with_reducible rfl
   (try simp only [pS])
   refine wpAnyH_take (i:=14) (oi:=oN 15 (Op.fieldAddr 148 (oT 14) 1) 0 "climb.go:30" #[jD 13,jP 0,jP 1,jP 2,jP 3,jP 4,jP 5,jP 6,jP 7,jP 8,jP 9,jP 10,jP 11,jP 12]) (v := ?vs23) rfl (by kernel_rfl) (by kernel_rfl) (by kernel_rfl) (fun _ _ _ h=>h) (Or.inl ⟨by rfl,?hs23⟩) trivial ?rs23
   case hs23 =>
    intro w hSw
    go_simp
    try with_reducible rfl
   (try simp only [pS])
   refine wpAnyH_ready (rs:=[15]) (by kernel_rfl) (by simp) ?_
   refine AllReadyH.cons (o:=oS (Op.store 146 (oT 15) (oT 11)) "climb.go:30" #[jD 14,jD 9,jC 12,jP 0,jP 1,jP 2,jP 3,jP 4,jP 5,jP 6,jP 7,jP 8,jP 9,jP 10,jP 11,jP 12]) rfl (fun K hK => ?_) (AllReadyH.nil)
   rw [if_pos (by rfl)]
   refine wp_store_mid 146 _ _ rfl g 8 (c8 xl zl).toArray rfl rfl hq.there info8 (one8 _ _) ?_
   have Os24:=Out.setCells (b:=g) (o:=8) (n:=(c8 xl zl).length) ws21 (c8 xl zl) (Nat.le_refl _) (Nat.le_refl _)
   replace hq:=hq.stored (c8 xl zl) rfl
   replace hp:=hp.far g 8 (c8 xl zl) (by simp [c8,c4])
   obtain ⟨ws24,hws24⟩:∃ W,ws21.setCells g 8 (c8 xl zl)=W:=⟨_,rfl⟩
   rw [hws24] at hp
   rw [hws24] at hq
   rw [hws24] at Os24
   rw [show ws21.setCells g 8 (c8 xl zl).toArray.toList=ws24 from hws24]
   refine hK.out _ _ trivial (fun h => ?_)
   clear h hK K hws24
   (try dsimp only [Act.put])
   refine wpAnyH_done (by kernel_rfl) ?_ _
   refine NoPanic.normal ?_
   go_wp2
   exact bodyPost_end (results_none Tryz.results124 _ _ _) rfl ⟨rfl,((Out.of_below hdrew hgl).trans (Out.wide (by assumption) (by decide) (by simp [c8,c4]))).trans (Out.wide (by assumption) (by decide) (by simp [c8,c4])),hp,hq⟩
set_option maxRecDepth 20000 in
set_option maxHeartbeats 4000000 in
theorem rung_no (u xl zl xh zh p q r s g:Nat) (hst:∀ W,RW W g 0 (c8 xl zl)→RW W g 8 (c8 xh zh)→Calls Tryz.prog 125 #[.pointer (some ⟨g,0,none⟩),numV u] W fun e w'=>e = .returned (.tuple #[])∧Out g 0 16 W w'∧RW w' g 0 (c8 p q)∧RW w' g 8 (c8 r s))
 (w:World) (hp:RW w g 0 (c8 xl zl)) (hq:RW w g 8 (c8 xh zh)) (hu:RW w g 16 (c4 u)) :
 Calls Tryz.prog 103 #[.pointer (some ⟨g,0,none⟩),.bool false] w fun e w'=>e = .returned (.tuple #[])∧Out g 0 16 w w'∧RW w' g 0 (c8 p q)∧RW w' g 8 (c8 r s)∧RW w' g 16 (c4 u):=by
 have hgl:=hp.lt
 go_enter Tryz.func103,Tryz.ntmps103
 go_wp2
 have hdrew:Below w.heap.size w w.drew:=(Below.refl _ _).drew
 replace hp:=hp.still hdrew
 replace hq:=hq.still hdrew
 replace hu:=hu.still hdrew
 refine wp_region_noPanic ?_
 refine wp_region_held_drew (S:=fun _=>True) (by kernel_rfl) trivial (fun _ => ?_)
 generalize w.drew=Vq at *
 refine wpAnyH_take (i:=0) (oi:=oN 9 (Op.move (oT 0)) 139 "climb.go:61" #[]) (v := ?vq1) rfl (by kernel_rfl) (by kernel_rfl) (by kernel_rfl) (fun _ _ _ h=>h) (Or.inl ⟨by rfl,?hq1⟩) trivial ?rq1
 case hq1 =>
  intro w hSw
  go_simp
  try with_reducible rfl
 (try simp only [pS])
 refine wpAnyH_take (i:=1) (oi:=oN 10 (Op.nilCheck (oT 9)) 0 "climb.go:61" #[jD 0]) (v := ?vq2) rfl (by kernel_rfl) (by kernel_rfl) (by kernel_rfl) (fun _ _ _ h=>h) (Or.inl ⟨by rfl,?hq2⟩) trivial ?rq2
 case hq2 =>
  intro w hSw
  go_simp
  try with_reducible rfl
 (try simp only [pS])
 refine wpAnyH_take (i:=2) (oi:=oN 11 (Op.fieldAddr 150 (oT 10) 0) 0 "climb.go:61" #[jD 1]) (v := ?vq3) rfl (by kernel_rfl) (by kernel_rfl) (by kernel_rfl) (fun _ _ _ h=>h) (Or.inl ⟨by rfl,?hq3⟩) trivial ?rq3
 case hq3 =>
  intro w hSw
  go_simp
  try with_reducible rfl
 (try simp only [pS])
 refine wpAnyH_take (i:=3) (oi:=oN 12 (Op.move (oT 0)) 139 "climb.go:61" #[]) (v := ?vq4) rfl (by kernel_rfl) (by kernel_rfl) (by kernel_rfl) (fun _ _ _ h=>h) (Or.inl ⟨by rfl,?hq4⟩) trivial ?rq4
 case hq4 =>
  intro w hSw
  go_simp
  try with_reducible rfl
 (try simp only [pS])
 refine wpAnyH_take (i:=4) (oi:=oN 13 (Op.nilCheck (oT 12)) 0 "climb.go:61" #[jD 3]) (v := ?vq5) rfl (by kernel_rfl) (by kernel_rfl) (by kernel_rfl) (fun _ _ _ h=>h) (Or.inl ⟨by rfl,?hq5⟩) trivial ?rq5
 case hq5 =>
  intro w hSw
  go_simp
  try with_reducible rfl
 (try simp only [pS])
 refine wpAnyH_take (i:=5) (oi:=oN 14 (Op.fieldAddr 150 (oT 13) 1) 0 "climb.go:61" #[jD 4]) (v := ?vq6) rfl (by kernel_rfl) (by kernel_rfl) (by kernel_rfl) (fun _ _ _ h=>h) (Or.inl ⟨by rfl,?hq6⟩) trivial ?rq6
 case hq6 =>
  intro w hSw
  go_simp
  try with_reducible rfl
 (try simp only [pS])
 refine wpAnyH_ready (rs:=[6]) (by kernel_rfl) (by simp) ?_
 refine AllReadyH.cons (o:=oN 15 (Op.load 88 (oT 14)) 88 "climb.go:61" #[jD 5]) rfl (fun K hK => ?_) (AllReadyH.nil)
 rw [if_pos (by rfl)]
 refine wp_load_mid 88 _ rfl g 16 rfl (c4 u) _ hu.range Tryz.underlying88 rfl info4 ?_
 refine hK.out _ _ trivial (fun h => ?_)
 clear h hK K
 rw [show Value.agg (c4 u).toArray=numV u from rfl]
 (try simp only [pS])
 refine wpAnyH_ready (rs:=[7]) (by kernel_rfl) (by simp) ?_
 refine AllReadyH.cons (o:=oN 16 (cF1 125 #[oT 11,oT 15] #[148,88]) 0 "climb.go:61" #[jD 2,jD 6]) rfl (fun K hK => ?_) (AllReadyH.nil)
 go_simp
 (go_at_call 125;refine (hst _ hp hq).mono ?_;clear hst;rintro e wq8 ⟨rfl,hO,hp2,hq2⟩;(replace hu:=hu.outside hO (by simp)))
 (try go_simp)
 refine hK.out _ _ trivial (fun h => ?_)
 clear h hK K
 (try simp only [pS])
 refine wpAnyH_done (by kernel_rfl) ?_ _
 refine NoPanic.normal ?_
 go_wp2
 exact bodyPost_end (results_none Tryz.results103 _ _ _) rfl ⟨rfl,(Out.of_below hdrew hgl).trans hO,hp2,hq2,hu⟩
set_option maxRecDepth 20000 in
set_option maxHeartbeats 4000000 in
theorem rung_yes (u xl zl xh zh p q r s g:Nat) (hst:∀ W,RW W g 0 (c8 xh zh)→RW W g 8 (c8 xl zl)→Calls Tryz.prog 125 #[.pointer (some ⟨g,0,none⟩),numV u] W fun e w'=>e = .returned (.tuple #[])∧Out g 0 16 W w'∧RW w' g 0 (c8 p q)∧RW w' g 8 (c8 r s))
 (w:World) (hp:RW w g 0 (c8 xl zl)) (hq:RW w g 8 (c8 xh zh)) (hu:RW w g 16 (c4 u)) :
 Calls Tryz.prog 103 #[.pointer (some ⟨g,0,none⟩),.bool true] w fun e w'=>e = .returned (.tuple #[])∧Out g 0 16 w w'∧RW w' g 0 (c8 r s)∧RW w' g 8 (c8 p q)∧RW w' g 16 (c4 u):=by
 have hsw:=swap_any xl zl xh zh g w hp hq
 have hgl:=hp.lt
 clear hp hq
 go_enter Tryz.func103,Tryz.ntmps103
 go_wp2_with (go_at_call 124;refine hsw.mono ?_;clear hsw;rintro e w1 ⟨rfl,hO1,hp,hq⟩;(replace hu:=hu.outside hO1 (by simp));(replace hgl:=Nat.lt_of_lt_of_le hgl hO1.size))
 have hdrew:Below w1.heap.size w1 w1.drew:=(Below.refl _ _).drew
 replace hp:=hp.still hdrew
 replace hq:=hq.still hdrew
 replace hu:=hu.still hdrew
 refine wp_region_noPanic ?_
 refine wp_region_held_drew (S:=fun _=>True) (by kernel_rfl) trivial (fun _ => ?_)
 generalize w1.drew=Vt at *
 refine wpAnyH_take (i:=0) (oi:=oN 9 (Op.move (oT 0)) 139 "climb.go:61" #[]) (v := ?vt1) rfl (by kernel_rfl) (by kernel_rfl) (by kernel_rfl) (fun _ _ _ h=>h) (Or.inl ⟨by rfl,?ht1⟩) trivial ?rt1
 case ht1 =>
  intro w hSw
  go_simp
  try with_reducible rfl
 (try simp only [pS])
 refine wpAnyH_take (i:=1) (oi:=oN 10 (Op.nilCheck (oT 9)) 0 "climb.go:61" #[jD 0]) (v := ?vt2) rfl (by kernel_rfl) (by kernel_rfl) (by kernel_rfl) (fun _ _ _ h=>h) (Or.inl ⟨by rfl,?ht2⟩) trivial ?rt2
 case ht2 =>
  intro w hSw
  go_simp
  try with_reducible rfl
 (try simp only [pS])
 refine wpAnyH_take (i:=2) (oi:=oN 11 (Op.fieldAddr 150 (oT 10) 0) 0 "climb.go:61" #[jD 1]) (v := ?vt3) rfl (by kernel_rfl) (by kernel_rfl) (by kernel_rfl) (fun _ _ _ h=>h) (Or.inl ⟨by rfl,?ht3⟩) trivial ?rt3
 case ht3 =>
  intro w hSw
  go_simp
  try with_reducible rfl
 (try simp only [pS])
 refine wpAnyH_take (i:=3) (oi:=oN 12 (Op.move (oT 0)) 139 "climb.go:61" #[]) (v := ?vt4) rfl (by kernel_rfl) (by kernel_rfl) (by kernel_rfl) (fun _ _ _ h=>h) (Or.inl ⟨by rfl,?ht4⟩) trivial ?rt4
 case ht4 =>
  intro w hSw
  go_simp
  try with_reducible rfl
 (try simp only [pS])
 refine wpAnyH_take (i:=4) (oi:=oN 13 (Op.nilCheck (oT 12)) 0 "climb.go:61" #[jD 3]) (v := ?vt5) rfl (by kernel_rfl) (by kernel_rfl) (by kernel_rfl) (fun _ _ _ h=>h) (Or.inl ⟨by rfl,?ht5⟩) trivial ?rt5
 case ht5 =>
  intro w hSw
  go_simp
  try with_reducible rfl
 (try simp only [pS])
 refine wpAnyH_take (i:=5) (oi:=oN 14 (Op.fieldAddr 150 (oT 13) 1) 0 "climb.go:61" #[jD 4]) (v := ?vt6) rfl (by kernel_rfl) (by kernel_rfl) (by kernel_rfl) (fun _ _ _ h=>h) (Or.inl ⟨by rfl,?ht6⟩) trivial ?rt6
 case ht6 =>
  intro w hSw
  go_simp
  try with_reducible rfl
 (try simp only [pS])
 refine wpAnyH_ready (rs:=[6]) (by kernel_rfl) (by simp) ?_
 refine AllReadyH.cons (o:=oN 15 (Op.load 88 (oT 14)) 88 "climb.go:61" #[jD 5]) rfl (fun K hK => ?_) (AllReadyH.nil)
 rw [if_pos (by rfl)]
 refine wp_load_mid 88 _ rfl g 16 rfl (c4 u) _ hu.range Tryz.underlying88 rfl info4 ?_
 refine hK.out _ _ trivial (fun h => ?_)
 clear h hK K
 rw [show Value.agg (c4 u).toArray=numV u from rfl]
 (try simp only [pS])
 refine wpAnyH_ready (rs:=[7]) (by kernel_rfl) (by simp) ?_
 refine AllReadyH.cons (o:=oN 16 (cF1 125 #[oT 11,oT 15] #[148,88]) 0 "climb.go:61" #[jD 2,jD 6]) rfl (fun K hK => ?_) (AllReadyH.nil)
 go_simp
 (go_at_call 125;refine (hst _ hp hq).mono ?_;clear hst;rintro e wt8 ⟨rfl,hO,hp2,hq2⟩;(replace hu:=hu.outside hO (by simp)))
 (try go_simp)
 refine hK.out _ _ trivial (fun h => ?_)
 clear h hK K
 (try simp only [pS])
 refine wpAnyH_done (by kernel_rfl) ?_ _
 refine NoPanic.normal ?_
 have hsw2:=swap_any p q r s g wt8 hp2 hq2
 clear hp2 hq2
 go_wp2_with (go_at_call 124;refine hsw2.mono ?_;clear hsw2;rintro e w2 ⟨rfl,hO2,hp3,hq3⟩;(replace hu:=hu.outside hO2 (by simp)))
 exact bodyPost_end (results_none Tryz.results103 _ _ _) rfl ⟨rfl,((hO1.trans (Out.of_below hdrew hgl)).trans hO).trans hO2,hp3,hq3,hu⟩
set_option maxRecDepth 20000 in
set_option maxHeartbeats 4000000 in
theorem value_any (x z i n:Nat) (hI:∀ W,Calls Tryz.prog 127 #[numV z] W fun e w'=>e = .returned (numV i)∧Below W.heap.size W w') (hT:∀ W,Calls Tryz.prog 126 #[numV x,numV i] W fun e w'=>e = .returned (numV n)∧Below W.heap.size W w') (w:World) :
 Calls Tryz.prog 104 #[ratV x z] w fun e w'=>e = .returned (numV n)∧Below w.heap.size w w':=by
 obtain ⟨W0,hW0⟩:∃ W,W=w.alloc (.cells (c8 x z).toArray 146):=⟨_,rfl⟩
 obtain ⟨W,g,hWg,hg,hb,hr⟩:=fresh4 W0
 have hs:W0.heap.size=w.heap.size+1:=by rw [hW0];simp
 have hb0:Below w.heap.size w W0:=by rw [hW0];exact (Below.refl _ _).alloc (Nat.le_refl _) _
 have hx0:RW W0 w.heap.size 0 (c8 x z):=by rw [hW0];exact RW.fresh w _ _
 replace hx0:=hx0.still hb
 have hx:RW W w.heap.size 0 (c4 x):=hx0.left
 have hz:RW W w.heap.size 4 (c4 z):=hx0.right
 have hge:g=w.heap.size+1:=by omega
 have hbW:Below w.heap.size w W:=below_next hb0 hb
 have hgl:=hr.lt
 have hne:w.heap.size≠g:=by omega
 have HW:Hid (W=(w.alloc (.cells #[.int .u64 (lw x 0),.int .u64 (lw x 1),.int .u64 (lw x 2),.int .u64 (lw x 3),.int .u64 (lw z 0),.int .u64 (lw z 1),.int .u64 (lw z 2),.int .u64 (lw z 3)] 146)).alloc (.cells #[.int .u64 0,.int .u64 0,.int .u64 0,.int .u64 0] 88)):=Hid.mk' (by rw [←hWg,hW0];rfl)
 have Hg:Hid (g=w.heap.size+1):=Hid.mk' hge
 obtain ⟨g0,hg0⟩:∃ g0,g0=w.heap.size:=⟨_,rfl⟩
 have Hg0:Hid (g0=w.heap.size):=Hid.mk' hg0
 rw [←hg0] at hx hz hne
 have hgw:w.heap.size≤g:=by omega
 clear hW0 hWg hg hb hs hb0 hx0 hge hg0 W0
 rw [show ratV x z = .agg #[.int .u64 (lw x 0),.int .u64 (lw x 1),.int .u64 (lw x 2),.int .u64 (lw x 3),.int .u64 (lw z 0),.int .u64 (lw z 1),.int .u64 (lw z 2),.int .u64 (lw z 3)] from rfl]
 go_enter Tryz.func104,Tryz.ntmps104
 go_wp2
 rw [←HW.out,←Hg.out,←Hg0.out]
 clear HW Hg Hg0
 have hgl0:=hgl
 have hdrew:Below W.heap.size W W.drew:=(Below.refl _ _).drew
 replace hx:=hx.still hdrew
 replace hz:=hz.still hdrew
 replace hr:=hr.still hdrew
 refine wp_region_noPanic ?_
 replace hgl:=Nat.lt_of_lt_of_le hgl hdrew.size
 refine wp_region_held_drew (S:=fun w'=>Out g 0 4 W.drew w') (by kernel_rfl) (Out.refl _ _ _ _) (fun hS => ?_)
 generalize W.drew=Vv at *
 refine tk 0 (pA g0 0) hS (hy:=yR) (h := ?_)
 (try simp only [pS])
 refine tk 1 (numV x) hS (hy:=(ldO hx hne 88 3 Tryz.underlying88 info4)) (h := ?_)
 (try simp only [pS])
 refine tk 2 (pA g0 4) hS (hy:=yR) (h := ?_)
 (try simp only [pS])
 refine tk 3 (numV z) hS (hy:=(ldO hz hne 88 5 Tryz.underlying88 info4)) (h := ?_)
 (try simp only [pS])
 refine cl 4 (hI _) ?_
 (rintro e wv1 ⟨rfl,hbv1⟩)
 have hSv1:=hS.trans (Out.of_below hbv1 hgl)
 replace hgl:=Nat.lt_of_lt_of_le hgl hbv1.size
 replace hr:=hr.still hbv1
 refine ⟨_,rfl,hSv1,?_⟩
 clear hbv1
 (try simp only [pS])
 refine cl 5 (hT _) ?_
 (rintro e wv2 ⟨rfl,hbv2⟩)
 have hSv2:=hSv1.trans (Out.of_below hbv2 hgl)
 replace hgl:=Nat.lt_of_lt_of_le hgl hbv2.size
 replace hr:=hr.still hbv2
 refine ⟨_,rfl,hSv2,?_⟩
 clear hbv2
 (try simp only [pS])
 refine wpAnyH_ready (rs:=[6]) (by kernel_rfl) (by simp) ?_
 refine AllReadyH.cons (o:=oS (Op.store 88 (oT 2) (oT 8)) "climb.go:23" #[jD 5,jC 5,jP 0,jP 1,jP 2,jP 3,jP 4,jP 5]) rfl (fun K hK => ?_) (AllReadyH.nil)
 rw [if_pos (by rfl)]
 refine wp_store_mid 88 _ _ rfl g 0 (c4 n).toArray rfl rfl hr.there info4 (one4 _) ?_
 have hSv3:=hSv2.trans (Out.setCells wv2 (c4 n) (Nat.le_refl _) (Nat.le_refl _))
 replace hr:=hr.stored (c4 n) rfl
 obtain ⟨wv3,hwv3⟩:∃ W,wv2.setCells g 0 (c4 n)=W:=⟨_,rfl⟩
 rw [hwv3] at hr
 rw [hwv3] at hSv3
 rw [show wv2.setCells g 0 (c4 n).toArray.toList=wv3 from hwv3]
 refine hK.out _ _ hSv3 (fun h => ?_)
 clear h hK K hwv3
 (try dsimp only [Act.put])
 refine wpAnyH_done (by kernel_rfl) ?_ _
 refine NoPanic.normal ?_
 clear hI hT
 go_wp2
 exact bodyPost_ret (results_cell_mid Tryz.results104 _ _ g 0 (c4 n) _ rfl hr.range Tryz.underlying88 rfl info4) rfl ⟨rfl,hbW.trans (((Out.of_below hdrew hgl0).trans hSv3).below hgw hbW.size)⟩
end Go.Proofs.YtcgkajlehdgpoaaGreatDoor
namespace Go.Proofs.YtcgkajlehdgpoaaGreatDoor
open Go.RowKit
theorem c4_one:c4 1=[.int .u64 1,.int .u64 0,.int .u64 0,.int .u64 0]:=by kernel_rfl
set_option maxRecDepth 20000 in
set_option maxHeartbeats 4000000 in
theorem begin_any (u:Nat) (w:World) :
 Calls Tryz.prog 101 #[numV u] w fun e w'=>∃ g,e = .returned (.pointer (some ⟨g,0,none⟩))∧w.heap.size≤g∧Below w.heap.size w w'∧RW w' g 0 (c8 1 0)∧RW w' g 8 (c8 u 1)∧RW w' g 16 (c4 u):=by
 have hS:=fun W=>fsmall_pos 1 (by decide) W
 have e1:numV 1 = .agg #[.int .u64 1,.int .u64 0,.int .u64 0,.int .u64 0]:=by kernel_rfl
 rw [e1] at hS
 clear e1
 obtain ⟨W0,hW0⟩:∃ W,W=w.alloc (.cells #[.int .u64 (lw u 0),.int .u64 (lw u 1),.int .u64 (lw u 2),.int .u64 (lw u 3)] 88):=⟨_,rfl⟩
 have hb0:Below w.heap.size w W0:=by rw [hW0];exact (Below.refl _ _).alloc (Nat.le_refl _) _
 have f0:FourAt W0 w.heap.size (.int .u64 (lw u 0)) (.int .u64 (lw u 1)) (.int .u64 (lw u 2)) (.int .u64 (lw u 3)):=by rw [hW0];exact four_fresh _ _ _ _ _ _
 have hl0:w.heap.size<W0.heap.size:=by rw [hW0];simp
 have HW:=Hid.mk' hW0
 clear hW0
 rw [show numV u = .agg #[.int .u64 (lw u 0),.int .u64 (lw u 1),.int .u64 (lw u 2),.int .u64 (lw u 3)] from rfl]
 go_enter Tryz.func101,Tryz.ntmps101
 go_wp2_with (go_at_call 54;rw [←HW.out];refine (hS _).mono ?_;clear hS HW;rintro e w1 ⟨rfl,hb1⟩;(obtain ⟨c0,c1,c2,c3,f0,f1,f2,f3⟩:=f0.below hb1 hl0);(have hlt:=Nat.lt_of_lt_of_le hl0 hb1.size);(have hne:w.heap.size≠w1.heap.size:=by omega))
 go_ret
 have hr:=RW.fresh (w1.alloc (.cells #[.int .u64 1,.int .u64 0,.int .u64 0,.int .u64 0] 88)) (c8 1 0 ++ (c8 u 1 ++ c4 u)) 150
 have hs:(w1.alloc (.cells #[.int .u64 1,.int .u64 0,.int .u64 0,.int .u64 0] 88)).heap.size=w1.heap.size+1:=by simp
 have hb2:Below w1.heap.size w1 ((w1.alloc (.cells #[.int .u64 1,.int .u64 0,.int .u64 0,.int .u64 0] 88)).alloc (.cells (c8 1 0 ++ (c8 u 1 ++ c4 u)).toArray 150)):=((Below.refl _ _).alloc (Nat.le_refl _) _).alloc (by simp) _
 rw [hs] at hr
 have e:(c8 1 0 ++ (c8 u 1 ++ c4 u)).toArray=#[.int .u64 1,.int .u64 0,.int .u64 0,.int .u64 0,.int .u64 0,.int .u64 0,.int .u64 0,.int .u64 0,.int .u64 (lw u 0),.int .u64 (lw u 1),.int .u64 (lw u 2),.int .u64 (lw u 3),.int .u64 1,.int .u64 0,.int .u64 0,.int .u64 0,.int .u64 (lw u 0),.int .u64 (lw u 1),.int .u64 (lw u 2),.int .u64 (lw u 3)]:=by
  unfold c8;rw [c4_one,c4_zero];rfl
 have hl:RW _ _ 0 (c8 1 0):=hr.left
 have hm:RW _ _ 8 (c8 u 1 ++ c4 u):=hr.right
 have hm1:RW _ _ 8 (c8 u 1):=hm.left
 have hm2:RW _ _ 16 (c4 u):=hm.right
 rw [e] at hl hm1 hm2 hb2
 have h1:=hb1.size
 exact ⟨_,rfl,by omega,(hb0.trans (hb1.mono (Nat.le_of_lt hl0))).trans (hb2.mono (by omega)),hl,hm1,hm2⟩
theorem bitsDown_any (x:Option Addr) (n c:Nat) (w:World):Calls Tryz.prog 102 #[.slice x n c] w fun e w'=>e = .returned (.func (.func 123) #[] #[.pointer (some ⟨w.heap.size,0,none⟩)])∧w'=w.alloc (.cells #[.slice x n c] 22):=by
 go_enter Tryz.func102,Tryz.ntmps102
 go_wp2
 go_ret
 exact ⟨rfl,rfl⟩
end Go.Proofs.YtcgkajlehdgpoaaGreatDoor
namespace Go.Proofs.YtcgkajlehdgpoaaGreatDoor
open Go.RowKit Go.Shelf
attribute [local go_sem] Oper.semAt_some
def bitN (ks:Nat→Nat) (i:Nat):Bool:=ks (i / 8) / 2 ^ (i%8)%2 == 1
theorem bit_eq (ks:Nat→Nat) (hlt:∀ q,ks q<256) (i:Nat):(bits .and .u8 ((ks (i / 8):Int) / 2 ^ (i%8)) 1 == 1)=bitN ks i:=by
 have e:((ks (i / 8):Int) / 2 ^ (i%8))=((ks (i / 8) / 2 ^ (i%8):Nat):Int):=by simp
 have hb:ks (i / 8) / 2 ^ (i%8)<256:=Nat.lt_of_le_of_lt (Nat.div_le_self _ _) (hlt _)
 rw [e,show (1:Int)=((1:Nat):Int) from rfl,u8_and_nat _ 1 hb (by decide),Nat.and_one_is_mod]
 unfold bitN
 generalize ks (i / 8) / 2 ^ (i%8)=v
 rcases Nat.mod_two_eq_zero_or_one v with h | h <;> simp [h]
set_option maxRecDepth 100000 in
set_option maxHeartbeats 4000000 in
theorem iter_in (n:Nat) (l pb bb ob cap:Nat) (ks:Nat→Nat) (Inv:Nat→World→Prop)
 (hcell:∀ j W,Inv j W→W.cell? ⟨pb,0,none⟩=some (.slice (some ⟨bb,ob,none⟩) 32 cap))
 (hks:∀ j W,Inv j W→∀ q,q<32→W.cell? ⟨bb,ob+q,none⟩=some (.int .u8 (ks q)))
 (hlt:∀ q,ks q<256)
 (hY:∀ j W1,j<255→Inv j W1→YieldAt Fence.wide (n - 1) Tryz.prog l #[.bool (bitN ks (254 - j))] W1 fun e W'=>e = .returned (.bool true)∧Inv (j+1) W')
 (W:World) (h0:Inv 0 W) :
 CallsIn Fence.wide n Tryz.prog 123 #[.func (.yield l) #[] #[],.pointer (some ⟨pb,0,none⟩)] W fun e W'=>(∃ v,e = .returned v)∧Inv 255 W':=by
 refine callsIn_of_wp Tryz.func123 rfl trivial ?_ rfl
 simp only [Tryz.ntmps123,List.size_toArray,List.length_cons,List.length_nil,Nat.reduceAdd,Nat.reduceSub,Array.replicate_succ,Array.replicate_zero,List.push_toArray,List.append_toArray,List.nil_append,List.cons_append]
 gi_wp2
 gi_loopw [3] (fun i wr=>∃ j:Nat,j≤255∧i = .int .i64 (254 - (j:Int))∧Inv j wr) (fun i _=>256 - (255 - (intOf i+1)).toNat)
 case atStart=>exact ⟨0,Nat.zero_le _,by go_num,h0⟩
 case round =>
  obtain ⟨j,hj,rfl,hI⟩:=hrel
  by_cases hj2:j<255
  · have c0:=hcell j wr hI
    have hi8:(254 - (j:Int)).toNat=254 - j:=by omega
    have cc:=hks j wr hI ((254 - j) / 8) (by omega)
    have hge:¬(254 - (j:Int)<0):=by omega
    have hbit:(bits .and .u8 ((ks ((254 - j) / 8):Int) / 2 ^ ((254 - j)%8)) 1 == 1)=bitN ks (254 - j):=bit_eq ks hlt (254 - j)
    obtain ⟨fn,tmps,assign,body,hy,hR⟩:=hY j wr hj2 hI
    gi_wp2
    refine ⟨(fun h=>by cases h),hR.mono ?_⟩
    rintro e W' ⟨rfl,hI'⟩
    gi_wp2
    go_roundw
    case rel=>exact ⟨j+1,by omega,by go_num,hI'⟩
    case measure=>simp [intOf];omega
  · obtain rfl:j=255:=by omega
    gi_wp2
    refine bodyPost_end (results_none rfl _ _ _) rfl ?_
    exact ⟨⟨_,rfl⟩,hI⟩
end Go.Proofs.YtcgkajlehdgpoaaGreatDoor
namespace Go.Proofs.YtcgkajlehdgpoaaGreatDoor
open Go.RowKit
def fadd (a b:Nat):Nat:=(a+b)%pF
def fsub (a b:Nat):Nat:=(a+pF - b)%pF
def fmul (a b:Nat):Nat:=a*b%pF
def finv (a:Nat):Nat:=a ^ (pF - 2)%pF
theorem fadd_lt (a b:Nat):fadd a b<pF:=Nat.mod_lt _ (by decide)
theorem fsub_lt (a b:Nat):fsub a b<pF:=Nat.mod_lt _ (by decide)
theorem fmul_lt (a b:Nat):fmul a b<pF:=Nat.mod_lt _ (by decide)
theorem finv_lt (a:Nat):finv a<pF:=Nat.mod_lt _ (by decide)
structure L4 where
 xl:Nat
 zl:Nat
 xh:Nat
 zh:Nat
structure L4.Ok (s:L4):Prop where
 xl:s.xl<pF
 zl:s.zl<pF
 xh:s.xh<pF
 zh:s.zh<pF
def L4.flip (s:L4):L4:=⟨s.xh,s.zh,s.xl,s.zl⟩
def ee (s:L4):Nat:=fsub (fmul (fadd s.xl s.zl) (fadd s.xl s.zl)) (fmul (fsub s.xl s.zl) (fsub s.xl s.zl))
def stepL (u:Nat) (s:L4):L4 :=
 ⟨fmul (fmul (fadd s.xl s.zl) (fadd s.xl s.zl)) (fmul (fsub s.xl s.zl) (fsub s.xl s.zl)),
  fmul (ee s) (fadd (fmul (fadd s.xl s.zl) (fadd s.xl s.zl)) (fmul 121665 (ee s))),
  fmul (fadd (fmul (fsub s.xh s.zh) (fadd s.xl s.zl)) (fmul (fadd s.xh s.zh) (fsub s.xl s.zl))) (fadd (fmul (fsub s.xh s.zh) (fadd s.xl s.zl)) (fmul (fadd s.xh s.zh) (fsub s.xl s.zl))),
  fmul u (fmul (fsub (fmul (fsub s.xh s.zh) (fadd s.xl s.zl)) (fmul (fadd s.xh s.zh) (fsub s.xl s.zl))) (fsub (fmul (fsub s.xh s.zh) (fadd s.xl s.zl)) (fmul (fadd s.xh s.zh) (fsub s.xl s.zl))))⟩
theorem stepL_ok (u:Nat) (s:L4):(stepL u s).Ok:=⟨fmul_lt _ _,fmul_lt _ _,fmul_lt _ _,fmul_lt _ _⟩
def rungL (u:Nat) (b:Bool) (s:L4):L4:=if b then (stepL u s.flip).flip else stepL u s
theorem rungL_ok (u:Nat) (b:Bool) (s:L4):(rungL u b s).Ok:=by
 unfold rungL
 have h:=stepL_ok u s.flip
 split
 · exact ⟨h.xh,h.zh,h.xl,h.zl⟩
 · exact stepL_ok u s
def climbL (u:Nat) (ks:Nat→Nat):Nat→L4
 | 0=>⟨1,0,u,1⟩
 | j+1=>rungL u (bitN ks (254 - j)) (climbL u ks j)
theorem climbL_ok (u:Nat) (hu:u<pF) (ks:Nat→Nat):∀ j,(climbL u ks j).Ok
 | 0=>⟨(by decide:1<pF),(by decide:0<pF),hu,(by decide:1<pF)⟩
 | _+1=>rungL_ok _ _ _
def mulL (ks:Nat→Nat) (u:Nat):Nat:=fmul (climbL u ks 255).xl (finv (climbL u ks 255).zl)
theorem step_any (u g:Nat) (hu:u<pF) (s:L4) (hs:s.Ok) (w:World) (hp:RW w g 0 (c8 s.xl s.zl)) (hq:RW w g 8 (c8 s.xh s.zh)) :
 Calls Tryz.prog 125 #[.pointer (some ⟨g,0,none⟩),numV u] w fun e w'=>e = .returned (.tuple #[])∧Out g 0 16 w w'∧RW w' g 0 (c8 (stepL u s).xl (stepL u s).zl)∧RW w' g 8 (c8 (stepL u s).xh (stepL u s).zh) :=
 step_raw u s.xl s.zl s.xh s.zh (fadd s.xl s.zl) (fsub s.xl s.zl) (fadd s.xh s.zh) (fsub s.xh s.zh) _ _ _ _ _ _ _ _ _ _ _ 121665 _ _ _ g
  (fun W=>rsum_any s.xl s.zl _ (fun W=>plus_any _ _ hs.xl hs.zl W) W) (fun W=>rdiff_any s.xl s.zl _ (fun W=>minus_any _ _ hs.xl hs.zl W) W)
  (fun W=>rsum_any s.xh s.zh _ (fun W=>plus_any _ _ hs.xh hs.zh W) W) (fun W=>rdiff_any s.xh s.zh _ (fun W=>minus_any _ _ hs.xh hs.zh W) W)
  (fun W=>times_any _ _ (fsub_lt _ _) (fadd_lt _ _) W) (fun W=>times_any _ _ (fadd_lt _ _) (fsub_lt _ _) W)
  (fun W=>plus_any _ _ (fmul_lt _ _) (fmul_lt _ _) W) (fun W=>minus_any _ _ (fmul_lt _ _) (fmul_lt _ _) W)
  (fun W=>times_any _ _ (fadd_lt _ _) (fadd_lt _ _) W) (fun W=>times_any _ _ (fsub_lt _ _) (fsub_lt _ _) W)
  (fun W=>minus_any _ _ (fmul_lt _ _) (fmul_lt _ _) W)
  (fun W=>times_any _ _ (fadd_lt _ _) (fadd_lt _ _) W) (fun W=>times_any _ _ (fsub_lt _ _) (fsub_lt _ _) W)
  (fun W=>times_any _ _ hu (fmul_lt _ _) W) (fun W=>times_any _ _ (fmul_lt _ _) (fmul_lt _ _) W)
  (fun W=>fsmall_pos 121665 (by decide) W)
  (fun W=>times_any _ _ (by decide) (fsub_lt _ _) W) (fun W=>plus_any _ _ (fmul_lt _ _) (fmul_lt _ _) W)
  (fun W=>times_any _ _ (fsub_lt _ _) (fadd_lt _ _) W) w hp hq
theorem rung_any (u g:Nat) (hu:u<pF) (b:Bool) (s:L4) (hs:s.Ok) (w:World) (hp:RW w g 0 (c8 s.xl s.zl)) (hq:RW w g 8 (c8 s.xh s.zh)) (hc:RW w g 16 (c4 u)) :
 Calls Tryz.prog 103 #[.pointer (some ⟨g,0,none⟩),.bool b] w fun e w'=>e = .returned (.tuple #[])∧Out g 0 16 w w'∧RW w' g 0 (c8 (rungL u b s).xl (rungL u b s).zl)∧RW w' g 8 (c8 (rungL u b s).xh (rungL u b s).zh)∧RW w' g 16 (c4 u):=by
 cases b with
 | false=>exact rung_no u s.xl s.zl s.xh s.zh _ _ _ _ g (fun W h k=>step_any u g hu s hs W h k) w hp hq hc
 | true=>exact rung_yes u s.xl s.zl s.xh s.zh _ _ _ _ g (fun W h k=>step_any u g hu s.flip ⟨hs.xh,hs.zh,hs.xl,hs.zl⟩ W h k) w hp hq hc
end Go.Proofs.YtcgkajlehdgpoaaGreatDoor
namespace Go.Proofs.YtcgkajlehdgpoaaGreatDoor
open Go.RowKit Go.Shelf
attribute [local go_sem] Oper.semAt_some
structure PInv (w:World) (l D g cb pb rb bb ob cap:Nat) (rec:Loop) (ks:Nat→Nat) (u j:Nat) (W:World):Prop where
 lp:W.heap[l]? = some (.loop rec)
 dfr:W.heap[D]? = some (.deferred (some []))
 cc:W.cell? ⟨cb,0,none⟩=some (.pointer (some ⟨g,0,none⟩))
 pc:W.cell? ⟨pb,0,none⟩=some (.slice (some ⟨bb,ob,none⟩) 32 cap)
 bs:∀ q,q<32→W.cell? ⟨bb,ob+q,none⟩=some (.int .u8 (ks q))
 low:RW W g 0 (c8 (climbL u ks j).xl (climbL u ks j).zl)
 high:RW W g 8 (c8 (climbL u ks j).xh (climbL u ks j).zh)
 un:RW W g 16 (c4 u)
 res:RW W rb 0 (c4 0)
 bel:Below w.heap.size w W
set_option maxRecDepth 100000 in
set_option maxHeartbeats 4000000 in
theorem product_in (n:Nat) (bb ob cap:Nat) (ks:Nat→Nat) (hks:∀ q,ks q<256) (u:Nat) (hu:u<pF) (w:World) (hc:∀ j,j<32→w.cell? ⟨bb,ob+j,none⟩=some (.int .u8 (ks j))) :
 CallsIn Fence.wide n Tryz.prog 76 #[.slice (some ⟨bb,ob,none⟩) 32 cap,numV u] w fun e w'=>e = .returned (numV (mulL ks u))∧Below w.heap.size w w':=by
 obtain ⟨N,hN⟩:∃ N,N=mulL ks u:=⟨_,rfl⟩
 rw [←hN]
 have HN:=Hid.mk' hN
 clear hN
 have hB:∀ W,Calls Tryz.prog 101 #[.agg #[.int .u64 (lw u 0),.int .u64 (lw u 1),.int .u64 (lw u 2),.int .u64 (lw u 3)]] W fun e w'=>∃ g,e = .returned (.pointer (some ⟨g,0,none⟩))∧W.heap.size≤g∧Below W.heap.size W w'∧RW w' g 0 (c8 1 0)∧RW w' g 8 (c8 u 1)∧RW w' g 16 (c4 u):=fun W=>begin_any u W
 have hD:=fun W=>bitsDown_any (some ⟨bb,ob,none⟩) 32 cap W
 rw [show numV u = .agg #[.int .u64 (lw u 0),.int .u64 (lw u 1),.int .u64 (lw u 2),.int .u64 (lw u 3)] from rfl]
 refine callsIn_of_wp_marks Tryz.func76 rfl trivial ?_ rfl
 simp only [Tryz.ntmps76,List.size_toArray,List.length_cons,List.length_nil,Nat.reduceAdd,Nat.reduceSub,Array.replicate_succ,Array.replicate_zero,List.push_toArray,List.append_toArray,List.nil_append,List.cons_append]
 gi_wp2_with (first
  | (refine ⟨trivial,(fun h=>by cases h),?_⟩;gi_at_call 101;refine (callsIn_wide.2 (hB _)).mono ?_;clear hB;rintro e w1 ⟨g,rfl,hg,hb1,r0,r8,r16⟩)
  | (refine ⟨trivial,(fun h=>by cases h),?_⟩;gi_at_call 102;refine (callsIn_wide.2 (hD _)).mono ?_;clear hD;rintro e w2 ⟨rfl,hw2⟩))
 obtain ⟨Z,hZ⟩:∃ Z,Z=(w.alloc (.cells #[.int .u64 (lw u 0),.int .u64 (lw u 1),.int .u64 (lw u 2),.int .u64 (lw u 3)] 88)).alloc (.cells #[.int .u64 0,.int .u64 0,.int .u64 0,.int .u64 0] 88):=⟨_,rfl⟩
 have hZs:Z.heap.size=w.heap.size+2:=by rw [hZ];simp
 have hZb:Below w.heap.size w Z:=by rw [hZ];exact ((Below.refl _ _).alloc (Nat.le_refl _) _).alloc (by simp) _
 have hZr:RW Z (w.heap.size+1) 0 (c4 0):=by
  have h:=fresh4' (w.alloc (.cells #[.int .u64 (lw u 0),.int .u64 (lw u 1),.int .u64 (lw u 2),.int .u64 (lw u 3)] 88))
  rw [World.size_alloc] at h
  rw [hZ];exact h
 rw [←hZ] at hg hb1
 rw [←hw2]
 have hw12:Below w1.heap.size w1 w2:=by rw [hw2];exact ((Below.refl _ _).alloc (Nat.le_refl _) _).alloc (by simp) _
 have hcc:w2.cell? ⟨w1.heap.size,0,none⟩=some (.pointer (some ⟨g,0,none⟩)):=by rw [hw2];simp
 have hpc:w2.cell? ⟨w1.heap.size+1,0,none⟩=some (.slice (some ⟨bb,ob,none⟩) 32 cap):=by rw [hw2];simp
 have hs2:w2.heap.size=w1.heap.size+2:=by rw [hw2];simp
 have hs1:=hb1.size
 have hbl:bb<w.heap.size:=block_lt_of_cell (hc 0 (by decide))
 have hb2:Below w.heap.size w w2:=(hZb.trans (hb1.mono (by omega))).trans (hw12.mono (by omega))
 have hr2:RW w2 (w.heap.size+1) 0 (c4 0):=(hZr.still hb1).still hw12
 have hcg:g<w1.heap.size:=r0.lt
 replace r0:=r0.still hw12
 replace r8:=r8.still hw12
 replace r16:=r16.still hw12
 clear hw2 hZ hZb hZr
 refine wpIn_range_with rfl (fun _=>trivial) (fun h=>by cases h) rfl (enters_of Tryz.func123 (by kernel_rfl) rfl) (fun q0 e1 e2 e4 e5 e6 e7 => ?_)
 obtain ⟨W1,hW1⟩:∃ W1,W1=(w2.alloc (.deferred (some []))).alloc (.loop q0):=⟨_,rfl⟩
 obtain ⟨l,hl⟩:∃ l,l=w2.heap.size+1:=⟨_,rfl⟩
 have hbl1:Below w2.heap.size w2 W1:=by rw [hW1];exact ((Below.refl _ _).alloc (Nat.le_refl _) _).alloc (by simp) _
 have hl1:W1.heap[l]? = some (.loop q0):=by
  rw [hW1,hl];have:=World.alloc_heap_new (w2.alloc (.deferred (some []))) (.loop q0);rwa [World.size_alloc] at this
 have hD1:W1.heap[w2.heap.size]? = some (.deferred (some [])):=by
  rw [hW1];exact (Below.heap_alloc _ _ _ (by simp)).trans (World.alloc_heap_new w2 _)
 rw [←hW1,←hl]
 obtain ⟨D,hD⟩:∃ D,D=w2.heap.size:=⟨_,rfl⟩
 have hDl:D<l:=by omega
 rw [←hD] at hD1 ⊢
 have hgc:g<w1.heap.size:=by omega
 have hDc:D=w1.heap.size+2:=by omega
 have hgw:w.heap.size+1<g:=by omega
 clear hW1 hl
 have hI0:PInv w l D g w1.heap.size (w1.heap.size+1) (w.heap.size+1) bb ob cap q0 ks u 0 W1:=⟨hl1,hD1,(hbl1.cell (block_lt_of_cell hcc)).trans hcc,(hbl1.cell (block_lt_of_cell hpc)).trans hpc,fun q hq=>((hb2.trans (hbl1.mono hb2.size)).cell (p:=⟨bb,ob+q,none⟩) hbl).trans (hc q hq),r0.still hbl1,r8.still hbl1,r16.still hbl1,hr2.still hbl1,hb2.trans (hbl1.mono hb2.size)⟩
 have hY:∀ j V,j<255→PInv w l D g w1.heap.size (w1.heap.size+1) (w.heap.size+1) bb ob cap q0 ks u j V→YieldAt Fence.wide (n - 1 - 1) Tryz.prog l #[.bool (bitN ks (254 - j))] V fun e W'=>e = .returned (.bool true)∧PInv w l D g w1.heap.size (w1.heap.size+1) (w.heap.size+1) bb ob cap q0 ks u (j+1) W':=by
  intro j V hj hI
  refine yield_round hI.lp (by rw [e5];rfl) ?_
  rw [e4,e5,e6,e7]
  obtain ⟨V2,hV2⟩:∃ V2,V2=V.putObj l (.loop { q0 with state := .busy }):=⟨_,rfl⟩
  have hbV:But (fun k=>k=l) V V2:=by rw [hV2];exact but_put _ _ _
  have hlV:V2.heap[l]? = some (.loop { q0 with state := .busy }):=by rw [hV2];exact World.putObj_heap_same (Array.getElem?_eq_some_iff.1 hI.lp).1
  have hDV:V2.heap[D]? = some (.deferred (some [])):=(hbV.block _ (Array.getElem?_eq_some_iff.1 hI.dfr).1 (by omega)).trans hI.dfr
  have hcV:=hbV.cell hI.cc (by omega)
  have hpV:=hbV.cell hI.pc (by omega)
  have hsV:=BytesIn.but hI.bs hbV (by omega)
  have hbeg:(Instr.beginRound l).run Tryz.prog V = .ok () V2:=by rw [hV2];exact run_beginRound hI.lp e1
  have hR:=rung_any u g hu (bitN ks (254 - j)) (climbL u ks j) (climbL_ok u hu ks j) V2 (hI.low.but hbV (by omega)) (hI.high.but hbV (by omega)) (hI.un.but hbV (by omega))
  have hrV:=hI.res.but hbV (by omega)
  have hBV:Below w.heap.size w V2:=hI.bel.trans (hbV.below hI.bel.size (by omega))
  have hfin:∀ V3:World,Out g 0 16 V2 V3→RW V3 g 0 (c8 (climbL u ks (j+1)).xl (climbL u ks (j+1)).zl)→RW V3 g 8 (c8 (climbL u ks (j+1)).xh (climbL u ks (j+1)).zh)→RW V3 g 16 (c4 u)→∃ v W',(Instr.endRound l none).run Tryz.prog V3 = .ok v W'∧(Ending.returned v = .returned (.bool true)∧PInv w l D g w1.heap.size (w1.heap.size+1) (w.heap.size+1) bb ob cap q0 ks u (j+1) W'):=by
   intro V3 hO x0 x8 x16
   have hb3:=hO.but
   have hl3:V3.heap[l]? = some (.loop { q0 with state := .busy }):=(hb3.block l (Array.getElem?_eq_some_iff.1 hlV).1 (by omega)).trans hlV
   have hrec:({ { q0 with state := .busy } with state := .ready,pending:=none }:Loop)=q0:=loop_back q0 e1 e2
   have hb5:=but_put V3 l (.loop q0)
   refine ⟨_,_,run_endRound none hl3,rfl,?_⟩
   simp only [Option.isNone_none,if_true,hrec]
   have hD3:=(hb3.block D (Array.getElem?_eq_some_iff.1 hDV).1 (by omega)).trans hDV
   exact ⟨World.putObj_heap_same (Array.getElem?_eq_some_iff.1 hl3).1,(hb5.block D (Array.getElem?_eq_some_iff.1 hD3).1 (by omega)).trans hD3,hb5.cell (hb3.cell hcV (by omega)) (by omega),hb5.cell (hb3.cell hpV (by omega)) (by omega),BytesIn.but (BytesIn.but hsV hb3 (by omega)) hb5 (by omega),x0.but hb5 (by omega),x8.but hb5 (by omega),x16.but hb5 (by omega),(hrV.but hb3 (by omega)).but hb5 (by omega),(hBV.trans (hb3.below hBV.size (by omega))).trans (hb5.below (Nat.le_trans hBV.size hb3.size) (by omega))⟩
  clear hV2 hI e1 e2 e4 e5 e6 e7 hI0 hbV hrV hBV hDV hlV hsV hpV
  gi_wp2
  try (refine ⟨V2,hbeg,?_⟩;gi_wp2_with (refine ⟨trivial,(fun h=>by cases h),?_⟩;gi_at_call 103;refine (callsIn_wide.2 hR).mono ?_;clear hR;rintro e V3 ⟨rfl,hO,x0,x8,x16⟩))
  exact hfin V3 hO x0 x8 x16
 refine (iter_in (n - 1) l (w1.heap.size+1) bb ob cap ks (PInv w l D g w1.heap.size (w1.heap.size+1) (w.heap.size+1) bb ob cap q0 ks u) (fun j W h=>h.pc) (fun j W h=>h.bs) hks hY W1 hI0).mono ?_
 rintro e W2 ⟨⟨v,rfl⟩,hF⟩
 obtain ⟨V,hV⟩:∃ V,V=W2.putObj l (.loop { q0 with state := .exhausted }):=⟨_,rfl⟩
 have hbV:But (fun k=>k=l) W2 V:=by rw [hV];exact but_put _ _ _
 have hDV:V.heap[D]? = some (.deferred (some [])):=(hbV.block _ (Array.getElem?_eq_some_iff.1 hF.dfr).1 (by omega)).trans hF.dfr
 have hcV:=hbV.cell hF.cc (by omega)
 have hBV:Below w.heap.size w V:=hF.bel.trans (hbV.below hF.bel.size (by omega))
 have hlow:=hF.low.but hbV (by omega)
 have hres:=hF.res.but hbV (by omega)
 have hok:=climbL_ok u hu ks 255
 have hval:=fun W=>value_any (climbL u ks 255).xl (climbL u ks 255).zl (finv (climbL u ks 255).zl) (mulL ks u) (fun W=>inverse_any _ hok.zl W) (fun W=>times_any _ _ hok.xl (finv_lt _) W) W
 refine ⟨none,V,?_,?_⟩
 · have h:=run_endLoop (P:=Tryz.prog) hF.lp (by rw [e1];simp)
   rw [←hV,e2] at h
   exact h
 clear hV hY hI0 e1 e2 e4 e5 e6 e7 hb1 hbl1 hl1 hD1 hF hok
 have rlow:=hlow.range
 have tres:=hres.there
 have hD':D<V.heap.size:=(Array.getElem?_eq_some_iff.1 hDV).1
 obtain ⟨xx,zz,hxx⟩:∃ xx zz,c8 (climbL u ks 255).xl (climbL u ks 255).zl=c8 xx zz∧ratV (climbL u ks 255).xl (climbL u ks 255).zl=ratV xx zz:=⟨_,_,rfl,rfl⟩
 rw [hxx.1] at rlow
 rw [hxx.2] at hval
 clear hxx hlow
 rw [←HN.out] at hval
 have hval':∀ W,Calls Tryz.prog 104 #[.agg (c8 xx zz).toArray] W fun e w'=>e = .returned (.agg (c4 N).toArray)∧Below W.heap.size W w':=hval
 clear hval HN
 gi_wp2_with (first
  | (refine wpListIn_load_mid rfl 146 _ rfl g 0 rfl (c8 xx zz) _ rlow Tryz.underlying146 rfl info8 ?_)
  | (refine ⟨trivial,(fun h=>by cases h),?_⟩;gi_at_call 104;refine (callsIn_wide.2 (hval' _)).mono ?_;clear hval' rlow;rintro e W3 ⟨rfl,hb3⟩;(have hres3:=hres.still hb3);(have t3:W3.there (w.heap.size+1) 0 (c4 N).toArray.size:=hres3.there))
  | (refine wpListIn_store_mid rfl 88 _ _ rfl (w.heap.size+1) 0 (c4 N).toArray rfl rfl t3 (info4a N) (one4 N) ?_))
 subst hDc
 dsimp only [Act.put]
 have hD3:W3.heap[w1.heap.size+2]? = some (.deferred (some [])):=(hb3.block (w1.heap.size+2) hD').trans hDV
 have hD4:(W3.setCells (w.heap.size+1) 0 (c4 N)).heap[w1.heap.size+2]? = some (.deferred (some [])):=(heap_setCells_other _ _ _ _ _ (by omega)).trans hD3
 have hr4:RW (W3.setCells (w.heap.size+1) 0 (c4 N)) (w.heap.size+1) 0 (c4 N):=hres3.stored (c4 N) rfl
 have hB4:Below w.heap.size w (W3.setCells (w.heap.size+1) 0 (c4 N)):=below_setCells (by omega) _ _ _ (hBV.trans (hb3.mono hBV.size))
 have hbV2:=but_put (W3.setCells (w.heap.size+1) 0 (c4 N)) (w1.heap.size+2) (.deferred none)
 have hr5:=hr4.but hbV2 (by omega)
 have hB5:=hB4.trans (hbV2.below hB4.size (by omega))
 refine ⟨by simp,.inl ⟨_,_,rfl,run_takeDeferred hD4,?_⟩⟩
 exact ⟨_,results_cell_mid Tryz.results76 _ _ (w.heap.size+1) 0 (c4 N) _ rfl hr5.range Tryz.underlying88 rfl info4,rfl,hB5⟩
theorem lproduct_any (bb ob cap:Nat) (ks:Nat→Nat) (hks:∀ q,ks q<256) (u:Nat) (hu:u<pF) (w:World) (hc:∀ j,j<32→w.cell? ⟨bb,ob+j,none⟩=some (.int .u8 (ks j))) :
 Calls Tryz.prog 76 #[.slice (some ⟨bb,ob,none⟩) 32 cap,numV u] w fun e w'=>e = .returned (numV (mulL ks u))∧Below w.heap.size w w' :=
 callsIn_wide.1 (product_in 9 bb ob cap ks hks u hu w hc)
end Go.Proofs.YtcgkajlehdgpoaaGreatDoor
namespace Go.Proofs.YtcgkajlehdgpoaaGreatDoor
open Go.RowKit
def NewB (w w':World) (v:Value) (n:Nat) (X:Nat→Nat):Prop:=∃ g,v = .slice (some ⟨g,0,none⟩) n n∧w.heap.size≤g∧RowAt .u8 w' g 0 n X
theorem NewB.bytes {w w':World} {v:Value} {n:Nat} {X:Nat→Nat} (h:NewB w w' v n X) (h0:0<n):BytesIn w' v n X:=by
 obtain ⟨g,rfl,-,hr⟩:=h
 exact .inr ⟨g,0,n,rfl,block_lt_of_cell (hr 0 h0).1,Nat.le_refl _,fun j hj=>(hr j hj).1⟩
end Go.Proofs.YtcgkajlehdgpoaaGreatDoor
namespace Go.Proofs.YtcgkajlehdgpoaaGreatDoor
open Go.RowKit
theorem NewB.still {w w' w2:World} {v:Value} {n:Nat} {X:Nat→Nat} (h:NewB w w' v n X) (h0:0<n) (hb:Below w'.heap.size w' w2):NewB w w2 v n X:=by
 obtain ⟨g,rfl,hg,hr⟩:=h
 exact ⟨g,rfl,hg,hr.below hb (block_lt_of_cell (hr 0 h0).1)⟩
theorem byt_all (n:Nat):∀ j,byt n j<256:=fun j=>byt_lt n j
theorem ofB_byt32 (n:Nat) (h:n<115792089237316195423570985008687907853269984665640564039457584007913129639936):ofB (byt n) 32=n:=by
 rw [ofB_byt,show (256:Nat) ^ 32=115792089237316195423570985008687907853269984665640564039457584007913129639936 from rfl,Nat.mod_eq_of_lt h]
theorem ans_str {W:World} {v:Value} {n:Nat} {X:Nat→Nat} (h:BytesIn W v n X) (hX:∀ j,X j<256):∃ xo c,v = .slice xo n c∧∀ W',Below W.heap.size W W'→(convert 22 9 v).run Tryz.prog W' = .ok (.string (strB n X)) W':=by
 have hc:=h.conv hX
 obtain ⟨xo,c,rfl,-⟩:=h.src
 exact ⟨xo,c,rfl,hc⟩
structure Str (W:World) (v:Value) (S:ByteArray):Prop where
 form:∃ xo n c,v = .slice xo n c
 conv:∀ W',Below W.heap.size W W'→(convert 22 9 v).run Tryz.prog W' = .ok (.string S) W'
theorem Str.of {W:World} {v:Value} {n:Nat} {X:Nat→Nat} (h:BytesIn W v n X) (hX:∀ j,X j<256):Str W v (strB n X):=by
 obtain ⟨xo,c,rfl,hc⟩:=ans_str h hX
 exact ⟨⟨xo,n,c,rfl⟩,hc⟩
theorem Str.still {W W2:World} {v:Value} {S:ByteArray} (h:Str W v S) (hb:Below W.heap.size W W2):Str W2 v S:=⟨h.form,fun W' h2=>h.conv W' (hb.trans (h2.mono hb.size))⟩
theorem Str.nil (W:World):Str W (.slice none 0 0) (strB 0 (fun _=>0)):=⟨⟨none,0,0,rfl⟩,fun W' _=>conv_nil W'⟩
theorem infoByte:(Tryz.prog.info? 5).map (·.size)=some 1:=by kernel_rfl
end Go.Proofs.YtcgkajlehdgpoaaGreatDoor
namespace Go.Proofs.YtcgkajlehdgpoaaGreatDoor
open Go.RowKit
def clB (bs:Nat→Nat) (j:Nat):Nat:=if j=0 then bs 0 / 8*8 else if j=31 then bs 31%64+64 else bs j
theorem clB_lt {bs:Nat→Nat} (h:∀ j,bs j<256) (j:Nat):clB bs j<256:=by
 unfold clB
 have:=h 0;have:=h 31;have:=h j
 split
 · omega
 · split
   · omega
   · exact h j
def loB (bs:Nat→Nat) (j:Nat):Nat:=if j=31 then bs 31%128 else bs j
theorem loB_lt {bs:Nat→Nat} (h:∀ j,bs j<256) (j:Nat):loB bs j<256:=by
 unfold loB
 have:=h 31
 split
 · omega
 · exact h j
theorem and_not7:∀ b:Nat,b<256→bits .andNot .u8 (b:Int) 7=((b / 8*8:Nat):Int):=by decide +kernel
theorem and_not128:∀ b:Nat,b<256→bits .andNot .u8 (b:Int) 128=((b%128:Nat):Int):=by decide +kernel
theorem or_64:∀ b:Nat,b<128→bits .or .u8 (b:Int) 64=((b%64+64:Nat):Int):=by decide +kernel
set_option maxRecDepth 20000 in
set_option maxHeartbeats 2000000 in
theorem clamp_good (v:Value) (bs:Nat→Nat) (hbs:∀ j,bs j<256) (w:World) (hv:BytesIn w v 32 bs):Calls Tryz.prog 74 #[v] w fun e w'=>∃ s,e = .returned (.tuple #[s,.int .i64 0])∧NewB w w' s 32 (clB bs)∧Below w.heap.size w w':=by
 have hmk:=make_bytes w 32 32 rfl (by decide)
 obtain ⟨W,hW⟩:∃ W,W=w.alloc (.cells (zb 32) 5):=⟨_,rfl⟩
 have hrow:RowAt .u8 W w.heap.size 0 32 (fun _=>0):=by rw [hW];exact RowAt.fresh (fun j hj=>zb_at 32 j hj)
 have hb:Below w.heap.size w W:=by rw [hW];exact (Below.refl _ _).alloc (Nat.le_refl _) _
 obtain ⟨xo,c,rfl,hxn,hnc,hsrc⟩:=hv.src
 have src:=hsrc W hb
 have hth:=hrow.there
 have hsp:=hrow.splice 0 32 bs (by decide)
 rw [←hW] at hmk
 have hb2:Below w.heap.size w (W.setCells w.heap.size 0 (ints .u8 32 bs)):=below_setCells (Nat.le_refl _) _ _ _ hb
 replace hsp:RowAt .u8 (W.setCells w.heap.size 0 (ints .u8 32 bs)) w.heap.size 0 32 bs:=hsp.congr (fun j hj=>by unfold over;rw [if_pos ⟨Nat.zero_le _,by omega⟩,Nat.sub_zero])
 obtain ⟨V,hV⟩:∃ V,V=W.setCells w.heap.size 0 (ints .u8 32 bs):=⟨_,rfl⟩
 rw [←hV] at hsp hb2
 have HV:=Hid.mk' hV
 clear hW hv hsrc hV hrow
 have c0:=(hsp 0 (by decide)).1
 have f0:=(hsp 0 (by decide)).2
 have c1:=(hsp 31 (by decide)).1
 have f1:=(hsp 31 (by decide)).2
 rw [Nat.zero_add] at c0 f0 c1 f1
 have e1:=and_not7 (bs 0) (hbs 0)
 have e2:=and_not128 (bs 31) (hbs 31)
 have e3:=or_64 (bs 31%128) (by omega)
 have r1:=hsp.set (i:=0) (by decide) (v:=((bs 0 / 8*8:Nat):Int)) rfl
 rw [Nat.zero_add] at r1
 have r2:=r1.set (i:=31) (by decide) (v:=((bs 31%128:Nat):Int)) rfl
 rw [Nat.zero_add] at r2
 have r3:=r2.set (i:=31) (by decide) (v:=((bs 31%128%64+64:Nat):Int)) rfl
 rw [Nat.zero_add] at r3
 generalize ((bs 0 / 8*8:Nat):Int)=b0 at *
 generalize hb1:((bs 31%128:Nat):Int)=b1 at *
 generalize ((bs 31%128%64+64:Nat):Int)=b3 at *
 clear hb1
 go_enter Tryz.func74,Tryz.ntmps74
 go_wp2_with (first
  | rw [hmk]
  | (refine wpList_copy_bytes rfl _ _ 22 22 rfl 5 Tryz.underlying22 infoByte w.heap.size 0 32 32 xo 32 c rfl rfl 32 bs src rfl hth ?_;rw [←HV.out];clear src hth HV hmk))
 refine bodyPost_ret (results_tmp2 rfl _ _ _) rfl ⟨_,rfl,⟨w.heap.size,rfl,Nat.le_refl _,r3.congr (fun j hj => ?_)⟩,?_⟩
 · unfold upd clB
   by_cases h31:j=31
   · rw [if_pos h31,if_neg (by omega),if_pos h31];omega
   · simp only [if_neg h31]
 · exact below_setCells (Nat.le_refl _) [_] 31 _ (below_setCells (Nat.le_refl _) [_] 31 _ (below_setCells (Nat.le_refl _) [_] 0 _ hb2))
set_option maxRecDepth 20000 in
set_option maxHeartbeats 2000000 in
theorem pointOf_good (v:Value) (bs:Nat→Nat) (hbs:∀ j,bs j<256) (w:World) (hv:BytesIn w v 32 bs):Calls Tryz.prog 75 #[v] w fun e w'=>e = .returned (.tuple #[numV (ofB (loB bs) 32%pF),.int .i64 0])∧Below w.heap.size w w':=by
 obtain ⟨Z,hZ⟩:∃ Z,Z=w.alloc (.cells #[.int .u64 0,.int .u64 0,.int .u64 0,.int .u64 0] 88):=⟨_,rfl⟩
 have hZr:RW Z w.heap.size 0 (c4 0):=by rw [hZ];exact fresh4' w
 have hZb:Below w.heap.size w Z:=by rw [hZ];exact (Below.refl _ _).alloc (Nat.le_refl _) _
 have HZ:=Hid.mk' hZ
 clear hZ
 have hmk:=make_bytes Z 32 32 rfl (by decide)
 obtain ⟨W,hW⟩:∃ W,W=Z.alloc (.cells (zb 32) 5):=⟨_,rfl⟩
 have hrow:RowAt .u8 W Z.heap.size 0 32 (fun _=>0):=by rw [hW];exact RowAt.fresh (fun j hj=>zb_at 32 j hj)
 have hb:Below Z.heap.size Z W:=by rw [hW];exact (Below.refl _ _).alloc (Nat.le_refl _) _
 obtain ⟨xo,c,rfl,hxn,hnc,hsrc⟩:=hv.src
 have src:=hsrc W (below_next hZb hb)
 have hth:=hrow.there
 have hsp:=hrow.splice 0 32 bs (by decide)
 rw [←hW] at hmk
 have hb2:Below Z.heap.size Z (W.setCells Z.heap.size 0 (ints .u8 32 bs)):=below_setCells (Nat.le_refl _) _ _ _ hb
 replace hsp:RowAt .u8 (W.setCells Z.heap.size 0 (ints .u8 32 bs)) Z.heap.size 0 32 bs:=hsp.congr (fun j hj=>by unfold over;rw [if_pos ⟨Nat.zero_le _,by omega⟩,Nat.sub_zero])
 obtain ⟨V,hV⟩:∃ V,V=W.setCells Z.heap.size 0 (ints .u8 32 bs):=⟨_,rfl⟩
 rw [←hV] at hsp hb2
 have HV:=Hid.mk' hV
 clear hW hv hsrc hV hrow
 have c1:=(hsp 31 (by decide)).1
 have f1:=(hsp 31 (by decide)).2
 rw [Nat.zero_add] at c1 f1
 have e2:=and_not128 (bs 31) (hbs 31)
 have r2:=hsp.set (i:=31) (by decide) (v:=((bs 31%128:Nat):Int)) rfl
 rw [Nat.zero_add] at r2
 generalize ((bs 31%128:Nat):Int)=b1 at *
 replace r2:=r2.congr (Y:=loB bs) (fun j hj=>by unfold upd loB;rfl)
 obtain ⟨V2,hV2⟩:∃ V2,V2=V.setCell ⟨Z.heap.size,31,none⟩ (.int .u8 b1):=⟨_,rfl⟩
 rw [←hV2] at r2
 have hb3:Below Z.heap.size Z V2:=by rw [hV2];exact below_setCells (Nat.le_refl _) [_] 31 _ hb2
 have HV2:=Hid.mk' hV2
 clear hV2
 have hF:=from_any (.slice (some ⟨Z.heap.size,0,none⟩) 32 32) 32 (loB bs) (loB_lt hbs) V2 (.inr ⟨Z.heap.size,0,32,rfl,block_lt_of_cell (r2 0 (by decide)).1,Nat.le_refl _,fun j hj=>(r2 j hj).1⟩)
 obtain ⟨N,hN⟩:∃ N,N=ofB (loB bs) 32%pF:=⟨_,rfl⟩
 rw [show fromN 32 (loB bs)=N from hN.symm,show fromE 32=0 from rfl] at hF
 rw [←hN]
 clear hN
 have hF':Calls Tryz.prog 100 #[.slice (some ⟨Z.heap.size,0,none⟩) 32 32] V2 fun e w'=>e = .returned (.tuple #[.agg (c4 N).toArray,.int .i64 0])∧Below V2.heap.size V2 w':=hF
 clear hF
 have hZr2:=hZr.still hb3
 have hbw:Below w.heap.size w V2:=below_next hZb hb3
 clear hb hb2 hb3 hZr r2
 go_enter Tryz.func75,Tryz.ntmps75
 go_wp2_with (first
  | (rw [←HZ.out];rw [hmk])
  | (refine wpList_copy_bytes rfl _ _ 22 22 rfl 5 Tryz.underlying22 infoByte Z.heap.size 0 32 32 xo 32 c rfl rfl 32 bs src rfl hth ?_;rw [←HV.out];clear src hth HV hmk)
  | (go_at_call 100;rw [←HV2.out];refine hF'.mono ?_;clear hF' HV2;rintro e w3 ⟨rfl,hb3⟩;(have hZr3:=hZr2.still hb3);(have t3:w3.there w.heap.size 0 (c4 N).toArray.size:=hZr3.there))
  | (with_reducible (refine id (?_:wpList _ _ _ _ _ _));refine wpList_store_mid rfl 88 _ _ rfl w.heap.size 0 (c4 N).toArray rfl rfl t3 (info4a N) (one4 N) ?_))
 exact bodyPost_ret (results_cell_tmp Tryz.results75 _ _ w.heap.size 0 (c4 N) _ rfl (hZr3.stored (c4 N) rfl).range Tryz.underlying88 rfl info4) rfl ⟨rfl,below_setCells (Nat.le_refl _) _ _ _ (below_next hbw hb3)⟩
end Go.Proofs.YtcgkajlehdgpoaaGreatDoor
namespace Go.Proofs.YtcgkajlehdgpoaaGreatDoor
open Go.RowKit
set_option maxRecDepth 20000 in
set_option maxHeartbeats 2000000 in
theorem lmul_good (v u:Value) (bs cs:Nat→Nat) (hbs:∀ j,bs j<256) (hcs:∀ j,cs j<256) (w:World) (hv:BytesIn w v 32 bs) (hu:BytesIn w u 32 cs):Calls Tryz.prog 53 #[v,u] w fun e w'=>∃ s,e = .returned (.tuple #[s,.int .i64 0])∧NewB w w' s 32 (byt (mulL (clB bs) (ofB (loB cs) 32%pF)))∧Below w.heap.size w w':=by
 have hC:=clamp_good v bs hbs w hv
 obtain ⟨N,hN⟩:∃ N,N=ofB (loB cs) 32%pF:=⟨_,rfl⟩
 have hNl:N<pF:=by rw [hN];exact Nat.mod_lt _ (by decide)
 have hP:∀ W,BytesIn W u 32 cs→Calls Tryz.prog 75 #[u] W fun e w'=>e = .returned (.tuple #[.agg (c4 N).toArray,.int .i64 0])∧Below W.heap.size W w':=fun W h=>by
  have:=pointOf_good u cs hcs W h
  rw [←hN] at this;exact this
 rw [←hN]
 clear hN
 obtain ⟨M,hM⟩:∃ M,M=mulL (clB bs) N:=⟨_,rfl⟩
 rw [←hM]
 have hQ:∀ g W,RowAt .u8 W g 0 32 (clB bs)→Calls Tryz.prog 76 #[.slice (some ⟨g,0,none⟩) 32 32,.agg (c4 N).toArray] W fun e w'=>e = .returned (numV M)∧Below W.heap.size W w':=fun g W h=>by
  have:=lproduct_any g 0 32 (clB bs) (clB_lt hbs) N hNl W (fun j hj=>(h j hj).1)
  rw [←hM] at this;exact this
 have hB:=fun W=>bytes_any M W
 clear hM
 go_enter Tryz.func53,Tryz.ntmps53
 go_wp2_with (first
  | (go_at_call 74;refine hC.mono ?_;clear hC;rintro e w1 ⟨s,rfl,⟨g,rfl,hg,hr⟩,hb1⟩)
  | (go_at_call 75;refine (hP _ (hu.still hb1)).mono ?_;clear hP;rintro e w2 ⟨rfl,hb2⟩;(have t2:=fresh4t w2 N);(have z2:=fresh4' w2);(obtain ⟨V,hV⟩:∃ V,V=(w2.alloc (.cells #[.int .u64 0,.int .u64 0,.int .u64 0,.int .u64 0] 88)).setCells w2.heap.size 0 (c4 N):=⟨_,rfl⟩);(have rN:RW V w2.heap.size 0 (c4 N):=by rw [hV];exact z2.stored (c4 N) rfl);(have bV:Below w2.heap.size w2 V:=by rw [hV];exact below_setCells (Nat.le_refl _) _ _ _ ((Below.refl _ _).alloc (Nat.le_refl _) _));(have HV:=Hid.mk' hV);clear hV z2)
  | (with_reducible (refine id (?_:wpList _ _ _ _ _ _));refine wpList_store_mid rfl 88 _ _ rfl w2.heap.size 0 (c4 N).toArray rfl rfl t2 (info4a N) (one4 N) ?_;rw [List.toList_toArray,←HV.out];clear t2 HV)
  | (refine wpList_load_mid rfl 88 _ rfl w2.heap.size 0 rfl (c4 N) _ rN.range Tryz.underlying88 rfl info4 ?_)
  | (go_at_call 76;refine (hQ g _ ((hr.below hb2 (block_lt_of_cell (hr 0 (by decide)).1)).below bV (Nat.lt_of_lt_of_le (block_lt_of_cell (hr 0 (by decide)).1) hb2.size))).mono ?_;clear hQ;rintro e w3 ⟨rfl,hb3⟩)
  | (go_at_call 55;refine (hB _).mono ?_;clear hB;rintro e w4 ⟨g4,rfl,hg4,hr4,hb4⟩))
 have s1:=hb1.size
 have s2:=hb2.size
 have s3:=bV.size
 have s4:=hb3.size
 exact bodyPost_ret (results_tmp2 rfl _ _ _) rfl ⟨_,rfl,⟨g4,rfl,by omega,hr4⟩,(((hb1.trans (hb2.mono s1)).trans (bV.mono (by omega))).trans (hb3.mono (by omega))).trans (hb4.mono (by omega))⟩
end Go.Proofs.YtcgkajlehdgpoaaGreatDoor
namespace Go.Proofs.YtcgkajlehdgpoaaGreatDoor
def Prm (n:Nat):Prop:=2≤n∧∀ d,d ∣ n→d=1∨d=n
theorem Prm.pos {n:Nat} (h:Prm n):0<n:=Nat.lt_of_lt_of_le (by decide) h.1
theorem prime_factor:∀ n,2≤n→∃ q,Prm q∧q ∣ n:=by
 intro n
 induction n using Nat.strongRecOn with
 | _ n ih =>
  intro hn
  by_cases h:Prm n
  · exact ⟨n,h,Nat.dvd_refl n⟩
  · have:∃ d,d ∣ n∧d≠1∧d≠n:=by
     apply Classical.byContradiction
     intro hc
     refine h ⟨hn,fun d hd => ?_⟩
     by_cases e1:d=1
     · exact .inl e1
     · by_cases e2:d=n
       · exact .inr e2
       · exact absurd ⟨d,hd,e1,e2⟩ hc
    obtain ⟨d,hd,h1,h2⟩:=this
    have hle:=Nat.le_of_dvd (by omega) hd
    have h0:d≠0:=fun e=>by rw [e] at hd;have:=Nat.eq_zero_of_zero_dvd hd;omega
    obtain ⟨q,hq,hqd⟩:=ih d (by omega) (by omega)
    exact ⟨q,hq,Nat.dvd_trans hqd hd⟩
theorem Prm.gcd {p:Nat} (h:Prm p) {a:Nat} (ha:¬p ∣ a):Nat.gcd p a=1:=by
 rcases h.2 _ (Nat.gcd_dvd_left p a) with e | e
 · exact e
 · exact absurd (e ▸ Nat.gcd_dvd_right p a) ha
theorem Prm.euclid {p:Nat} (h:Prm p) {a b:Nat} (hab:p ∣ a*b):p ∣ a∨p ∣ b:=by
 by_cases ha:p ∣ a
 · exact .inl ha
 · exact .inr (Nat.Coprime.dvd_of_dvd_mul_left (h.gcd ha) hab)
def cho:Nat→Nat→Nat
 | _,0=>1
 | 0,_+1=>0
 | n+1,k+1=>cho n k+cho n (k+1)
theorem cho_zero (n:Nat):cho n 0=1:=by cases n <;> rfl
theorem cho_big:∀ n k,n<k→cho n k=0
 | 0,k+1,_=>rfl
 | n+1,k+1,h=>by rw [cho,cho_big n k (by omega),cho_big n (k+1) (by omega)]
theorem cho_self:∀ n,cho n n=1
 | 0=>rfl
 | n+1=>by rw [cho,cho_self n,cho_big n (n+1) (by omega)]
theorem cho_mul:∀ n k,(k+1)*cho (n+1) (k+1)=(n+1)*cho n k
 | 0,0=>rfl
 | 0,k+1=>by rw [cho,cho,cho];rfl
 | n+1,0=>by
  have h:=cho_mul n 0
  rw [cho_zero] at h ⊢
  rw [cho,cho_zero]
  omega
 | n+1,k+1=>by
  have h1:=cho_mul n k
  have h2:=cho_mul n (k+1)
  have e1:cho (n+2) (k+2)=cho (n+1) (k+1)+cho (n+1) (k+2):=rfl
  have e2:cho (n+1) (k+1)=cho n k+cho n (k+1):=rfl
  rw [show n+1+1=n+2 from rfl,show k+1+1=k+2 from rfl] at *
  have e3:(k+2)*cho (n+1) (k+1)=(n+1)*cho n k+cho (n+1) (k+1):=by
   rw [show k+2=(k+1)+1 from rfl,Nat.succ_mul,h1]
  have e4:(n+1)*cho (n+1) (k+1)=(n+1)*cho n k+(n+1)*cho n (k+1):=by rw [e2,Nat.mul_add]
  have e5:(n+2)*cho (n+1) (k+1)=(n+1)*cho (n+1) (k+1)+cho (n+1) (k+1):=Nat.succ_mul _ _
  rw [e1,Nat.mul_add,h2,e3,e5,e4]
  omega
def bin (a n:Nat):Nat→Nat
 | 0=>0
 | m+1=>bin a n m+cho n m*a ^ m
theorem bin_step (a n:Nat):∀ m,bin a (n+1) (m+1)=bin a n (m+1)+a*bin a n m
 | 0=>by simp [bin,cho_zero]
 | m+1=>by
  rw [bin,bin_step a n m]
  have e:cho (n+1) (m+1)=cho n m+cho n (m+1):=rfl
  rw [e,Nat.add_mul]
  have h1:bin a n (m+1+1)=bin a n (m+1)+cho n (m+1)*a ^ (m+1):=rfl
  have h2:bin a n (m+1)=bin a n m+cho n m*a ^ m:=rfl
  rw [h1,h2,Nat.mul_add,Nat.pow_succ]
  have e2:a*(cho n m*a ^ m)=cho n m*(a ^ m*a):=by rw [Nat.mul_comm a,Nat.mul_assoc]
  rw [e2];omega
theorem bin_pow (a:Nat):∀ n,bin a n (n+1)=(a+1) ^ n
 | 0=>by simp [bin,cho_zero]
 | n+1=>by
  rw [bin_step]
  have h1:bin a n (n+1+1)=bin a n (n+1)+cho n (n+1)*a ^ (n+1):=rfl
  rw [h1,cho_big n (n+1) (by omega),Nat.zero_mul,Nat.add_zero,bin_pow a n,Nat.pow_succ,Nat.mul_comm _ (a+1),Nat.succ_mul,Nat.add_comm]
theorem bin_mod {p:Nat} (h:Prm p) (a:Nat):∀ m,m+1≤p→bin a p (m+1)%p=1%p
 | 0,_=>by simp [bin,cho_zero]
 | m+1,hm=>by
  have ih:=bin_mod h a m (by omega)
  have hd:p ∣ cho p (m+1):=by
   obtain ⟨n,rfl⟩:∃ n,p=n+1:=⟨p - 1,by have:=h.pos;omega⟩
   have e:=cho_mul n m
   have:n+1 ∣ (m+1)*cho (n+1) (m+1):=⟨_,e⟩
   rcases h.euclid this with h1 | h1
   · have:=Nat.le_of_dvd (by omega) h1;omega
   · exact h1
  have e:bin a p (m+1+1)=bin a p (m+1)+cho p (m+1)*a ^ (m+1):=rfl
  obtain ⟨c,hc⟩:=hd
  rw [e,hc,Nat.mul_assoc,Nat.add_mul_mod_self_left,ih]
theorem Prm.fermat {p:Nat} (h:Prm p):∀ a,a ^ p%p=a%p
 | 0=>by rw [Nat.zero_pow h.pos]
 | a+1=>by
  have e1:=bin_pow a p
  have e2:bin a p (p+1)=bin a p p+cho p p*a ^ p:=rfl
  obtain ⟨n,hn⟩:∃ n,p=n+1:=⟨p - 1,by have:=h.pos;omega⟩
  have e3:=bin_mod h a n (by omega)
  rw [←hn] at e3
  rw [←e1,e2,cho_self,Nat.one_mul,Nat.add_mod,e3,h.fermat a,←Nat.add_mod,Nat.add_comm]
theorem Prm.fermat1 {p:Nat} (h:Prm p) {a:Nat} (ha:¬p ∣ a):a ^ (p - 1)%p=1%p:=by
 have h1:=h.fermat a
 have hp:=h.pos
 obtain ⟨n,rfl⟩:∃ n,p=n+1:=⟨p - 1,by omega⟩
 rw [Nat.pow_succ] at h1
 rw [Nat.add_sub_cancel]
 have key:∀ x,(x*a)%(n+1)=a%(n+1)→x%(n+1)=1%(n+1):=by
  intro x hx
  have hd:n+1 ∣ ((x:Int)*a - a).natAbs:=by
   have:((n+1:Nat):Int) ∣ (x:Int)*a - a:=by
    apply Int.dvd_of_emod_eq_zero
    rw [Int.sub_emod,←Int.natCast_mul,←Int.natCast_emod,←Int.natCast_emod,hx,Int.sub_self,Int.zero_emod]
   exact Int.ofNat_dvd_left.1 this
  have e:((x:Int)*a - a)=((x:Int) - 1)*a:=by rw [Int.sub_mul,Int.one_mul]
  rw [e,Int.natAbs_mul,Int.natAbs_natCast] at hd
  rcases h.euclid hd with h2 | h2
  · have h3:((n+1:Nat):Int) ∣ (x:Int) - 1:=Int.ofNat_dvd_left.2 h2
    have h4:=Int.emod_eq_zero_of_dvd h3
    have h5:=(Int.emod_eq_emod_iff_emod_sub_eq_zero (m:=(x:Int)) (n:=((n+1:Nat):Int)) (k:=1)).2 h4
    have h6:(((x%(n+1):Nat):Int))=((1%(n+1):Nat):Int):=by
     rw [Int.natCast_emod,Int.natCast_emod];exact h5
    exact Int.ofNat_inj.1 h6
  · exact absurd h2 ha
 exact key _ h1
def pm (N a:Nat):Nat→Nat→Nat
 | 0,_=>1%N
 | k+1,e=>pm N a k (e / 2) ^ 2%N*a ^ (e%2)%N
theorem pm_eq (N a:Nat):∀ k e,e<2 ^ k→pm N a k e=a ^ e%N
 | 0,e,h=>by
  have:e=0:=by simpa using h
  rw [this,pm,Nat.pow_zero]
 | k+1,e,h=>by
  rw [pm,pm_eq N a k (e / 2) (by rw [Nat.pow_succ] at h;omega),←Nat.pow_mod,←Nat.pow_mul,Nat.mul_mod,Nat.mod_mod,←Nat.mul_mod,←Nat.pow_add]
  congr 2;omega
theorem pow_gcd (a s:Nat) (m n:Nat):a ^ m%s=1%s→a ^ n%s=1%s→a ^ (Nat.gcd m n)%s=1%s:=by
 induction m,n using Nat.gcd.induction with
 | H0 n=>intro _ h;rw [Nat.gcd_zero_left];exact h
 | H1 m n hm ih =>
  intro h1 h2
  rw [Nat.gcd_rec]
  refine ih ?_ h1
  have e:a ^ n=(a ^ m) ^ (n / m)*a ^ (n%m):=by rw [←Nat.pow_mul,←Nat.pow_add,Nat.div_add_mod]
  rw [e,Nat.mul_mod,Nat.pow_mod,h1,←Nat.pow_mod,Nat.one_pow,←Nat.mul_mod,Nat.one_mul] at h2
  exact h2
theorem pock {N f Q a:Nat} (hf:Prm f) (hN:N=f*Q+1) (hQ:0<Q) (h1:a ^ (N - 1)%N=1) (h2:Nat.gcd (a ^ Q%N+N - 1) N=1) (hs:Q / f+1<Q%f):Prm N:=by
 have hfp:=hf.pos
 have hf2:=hf.1
 have hNp:2≤N:=by
  have:1≤f*Q:=Nat.mul_pos hfp hQ
  omega
 have hN1:N - 1=f*Q:=by omega
 have step:∀ q,Prm q→q ∣ N→f ∣ q - 1:=fun q hq hqN=>by
  apply Classical.byContradiction
  intro hnd
  have hq1:1%q=1:=Nat.mod_eq_of_lt hq.1
  have e1:a ^ (N - 1)%q=1%q:=by rw [←Nat.mod_mod_of_dvd (a ^ (N - 1)) hqN,h1]
  have hqa:¬q ∣ a:=fun hd=>by
   have hd2:q ∣ a ^ (N - 1):=Nat.dvd_trans hd (by
    obtain ⟨k,hk⟩:∃ k,N - 1=k+1:=⟨N - 2,by omega⟩
    rw [hk,Nat.pow_succ];exact Nat.dvd_mul_left _ _)
   rw [Nat.mod_eq_zero_of_dvd hd2,hq1] at e1
   omega
  have e2:=hq.fermat1 hqa
  have e3:=pow_gcd a q _ _ e1 e2
  have hg1:=Nat.gcd_dvd_left (N - 1) (q - 1)
  have hg2:=Nat.gcd_dvd_right (N - 1) (q - 1)
  generalize Nat.gcd (N - 1) (q - 1)=g at *
  have hfg:¬f ∣ g:=fun h=>hnd (Nat.dvd_trans h hg2)
  rw [hN1] at hg1
  have hgQ:g ∣ Q:=Nat.Coprime.dvd_of_dvd_mul_left (Nat.Coprime.symm (hf.gcd hfg)) hg1
  obtain ⟨c,hc⟩:=hgQ
  have e4:a ^ Q%q=1:=by rw [hc,Nat.pow_mul,Nat.pow_mod,e3,←Nat.pow_mod,Nat.one_pow,hq1]
  have e5:a ^ Q%N%q=1:=by rw [Nat.mod_mod_of_dvd _ hqN,e4]
  have hd:q ∣ a ^ Q%N+N - 1:=by
   generalize a ^ Q%N=y at e5
   obtain ⟨n,hn⟩:=hqN
   have hy:y=q*(y / q)+1:=by have:=Nat.div_add_mod y q;omega
   refine ⟨y / q+n,?_⟩
   rw [Nat.mul_add,←hn]
   omega
  have:=Nat.dvd_gcd hd hqN
  rw [h2] at this
  have:=Nat.le_of_dvd (by decide) this
  have:=hq.1
  omega
 obtain ⟨q,hq,hqN⟩:=prime_factor N hNp
 by_cases e:q=N
 · rw [←e];exact hq
 · exfalso
   obtain ⟨t,ht⟩:=hqN
   obtain ⟨x,hx⟩:=step q hq ⟨t,ht⟩
   have hq2:=hq.1
   have hqe:q=f*x+1:=by omega
   have hx0:0<x:=by
    apply Nat.pos_of_ne_zero
    intro h0;rw [h0,Nat.mul_zero] at hqe;omega
   have e1:f*Q+1=(f*x+1)*t:=by rw [←hqe,←ht,hN]
   have e2:f*Q+1=f*(x*t)+t:=by rw [e1,Nat.add_mul,Nat.one_mul,Nat.mul_assoc]
   have ht0:0<t:=by
    apply Nat.pos_of_ne_zero
    intro h0;rw [h0,Nat.mul_zero] at ht;omega
   have hft:f ∣ t - 1:=by
    have h3:f*Q=f*(x*t)+(t - 1):=by omega
    have:f ∣ f*(x*t)+(t - 1):=⟨Q,h3.symm⟩
    exact (Nat.dvd_add_right (Nat.dvd_mul_right f _)).1 this
   obtain ⟨y,hy⟩:=hft
   have hte:t=f*y+1:=by omega
   have hy0:0<y:=by
    apply Nat.pos_of_ne_zero
    intro h0;rw [h0,Nat.mul_zero] at hte
    rw [hte,Nat.mul_one] at ht
    exact e ht.symm
   have h3:f*Q=f*(x*t)+f*y:=by omega
   have h4:Q=x*t+y:=Nat.eq_of_mul_eq_mul_left hfp (by rw [h3,Nat.mul_add])
   have h5:Q=f*(x*y)+(x+y):=by
    rw [h4,hte,Nat.mul_add,Nat.mul_one,Nat.mul_left_comm,Nat.add_assoc]
   have h6:x+y≤x*y+1:=by
    obtain ⟨u,rfl⟩:∃ u,x=u+1:=⟨x - 1,by omega⟩
    obtain ⟨v,rfl⟩:∃ v,y=v+1:=⟨y - 1,by omega⟩
    rw [Nat.add_mul,Nat.mul_add]
    omega
   have h7:x*y≤Q / f:=by
    rw [Nat.le_div_iff_mul_le hfp,Nat.mul_comm,h5]
    exact Nat.le_add_right _ _
   have h8:Q%f<f:=Nat.mod_lt _ hfp
   have h9:Q%f=x+y:=by
    rw [h5,Nat.mul_add_mod,Nat.mod_eq_of_lt (by omega)]
   omega
theorem prime_trial (n k:Nat) (hn:2≤n) (hk:n<k*k) (h:(List.range k).all (fun d=>decide (d<2) || decide (n%d≠0))=true):Prm n:=by
 obtain ⟨q,hq,hqn⟩:=prime_factor n hn
 have hno:∀ d,2≤d→d<k→¬d ∣ n:=fun d h2 hdk hd=>by
  have:=List.all_eq_true.1 h d (List.mem_range.2 hdk)
  rw [Bool.or_eq_true,decide_eq_true_eq,decide_eq_true_eq] at this
  rcases this with h3 | h3
  · omega
  · exact h3 (Nat.mod_eq_zero_of_dvd hd)
 by_cases e:q=n
 · rw [←e];exact hq
 · exfalso
   obtain ⟨t,ht⟩:=hqn
   have hq2:=hq.1
   have hqk:k≤q:=Nat.le_of_not_lt (fun hlt=>hno q hq2 hlt ⟨t,ht⟩)
   have ht0:t≠0:=fun h0=>by rw [h0,Nat.mul_zero] at ht;omega
   have ht1:t≠1:=fun h1=>by rw [h1,Nat.mul_one] at ht;exact e ht.symm
   have htk:k≤t:=Nat.le_of_not_lt (fun hlt=>hno t (by omega) hlt ⟨q,by rw [Nat.mul_comm];exact ht⟩)
   have:=Nat.mul_le_mul hqk htk
   omega
theorem prime0:Prm 8574133:=prime_trial 8574133 2929 (by decide) (by decide) (by kernel_rfl)
theorem prime1:Prm 1919519569386763 :=
 pock (f:=8574133) (Q:=223873314) (a:=2) prime0 (by decide) (by decide)
  (by rw [←pm_eq 1919519569386763 2 256 (1919519569386763 - 1) (by decide)];kernel_rfl)
  (by rw [←pm_eq 1919519569386763 2 256 223873314 (by decide)];kernel_rfl) (by decide)
theorem prime2:Prm 75445702479781427272750846543864801 :=
 pock (f:=1919519569386763) (Q:=39304471641247389600) (a:=2) prime1 (by decide) (by decide)
  (by rw [←pm_eq 75445702479781427272750846543864801 2 256 (75445702479781427272750846543864801 - 1) (by decide)];kernel_rfl)
  (by rw [←pm_eq 75445702479781427272750846543864801 2 256 39304471641247389600 (by decide)];kernel_rfl) (by decide)
theorem prime3:Prm 74058212732561358302231226437062788676166966415465897661863160754340907 :=
 pock (f:=75445702479781427272750846543864801) (Q:=981609426360740691344999861639072106) (a:=2) prime2 (by decide) (by decide)
  (by rw [←pm_eq 74058212732561358302231226437062788676166966415465897661863160754340907 2 256 (74058212732561358302231226437062788676166966415465897661863160754340907 - 1) (by decide)];kernel_rfl)
  (by rw [←pm_eq 74058212732561358302231226437062788676166966415465897661863160754340907 2 256 981609426360740691344999861639072106 (by decide)];kernel_rfl) (by decide)
theorem prime4:Prm 57896044618658097711785492504343953926634992332820282019728792003956564819949 :=
 pock (f:=74058212732561358302231226437062788676166966415465897661863160754340907) (Q:=781764) (a:=2) prime3 (by decide) (by decide)
  (by rw [←pm_eq 57896044618658097711785492504343953926634992332820282019728792003956564819949 2 256 (57896044618658097711785492504343953926634992332820282019728792003956564819949 - 1) (by decide)];kernel_rfl)
  (by rw [←pm_eq 57896044618658097711785492504343953926634992332820282019728792003956564819949 2 256 781764 (by decide)];kernel_rfl) (by decide)
theorem prime_p:Prm pF:=prime4
end Go.Proofs.YtcgkajlehdgpoaaGreatDoor
namespace Go.Proofs.YtcgkajlehdgpoaaGreatDoor
theorem not_dvd {x:Nat} (h0:x≠0) (hx:x<pF):¬pF ∣ x:=fun h=>by have:=Nat.le_of_dvd (Nat.pos_of_ne_zero h0) h;omega
theorem pF_one:1%pF=1:=by decide
theorem inv_mul {x:Nat} (h0:x≠0) (hx:x<pF):x*(x ^ (pF - 2)%pF)%pF=1:=by
 have h:=prime_p.fermat1 (not_dvd h0 hx)
 have e:pF - 1=(pF - 2).succ:=by decide
 rw [Nat.mul_mod,Nat.mod_mod,←Nat.mul_mod,Nat.mul_comm,←Nat.pow_succ,←e,h,pF_one]
end Go.Proofs.YtcgkajlehdgpoaaGreatDoor
namespace Go.Proofs.YtcgkajlehdgpoaaGreatDoor
open Go.RowKit
theorem quot_of {x z k:Nat} (hk:k<pF) (hz0:z≠0) (hz:z<pF) (h:k*z%pF=x):fmul x (finv z)=k:=by
 have hi:=inv_mul hz0 hz
 unfold fmul finv
 rw [←h,Nat.mod_mul_mod,Nat.mul_assoc,Nat.mul_mod,hi,Nat.mul_one,Nat.mod_mod,Nat.mod_eq_of_lt hk]
theorem nine_of:ofB (loB (byt 9)) 32%pF=9:=by kernel_rfl
end Go.Proofs.YtcgkajlehdgpoaaGreatDoor
namespace Go.Proofs.YtcgkajlehdgpoaaGreatDoor
open Go.RowKit
set_option maxRecDepth 20000 in
set_option maxHeartbeats 2000000 in
theorem public_good (v:Value) (bs:Nat→Nat) (hbs:∀ j,bs j<256) (w:World) (hv:BytesIn w v 32 bs):Calls Tryz.prog 30 #[v] w fun e w'=>∃ s,e = .returned (.tuple #[s,.int .i64 0])∧NewB w w' s 32 (byt (mulL (clB bs) 9))∧Below w.heap.size w w':=by
 have hS:=fun W=>fsmall_pos 9 (by decide) W
 have hB:=fun W=>bytes_any 9 W
 have hM:∀ u W,BytesIn W u 32 (byt 9)→Below w.heap.size w W→Calls Tryz.prog 53 #[v,u] W fun e w'=>∃ s,e = .returned (.tuple #[s,.int .i64 0])∧NewB W w' s 32 (byt (mulL (clB bs) 9))∧Below W.heap.size W w':=fun u W h hb=>by
  have:=lmul_good v u bs (byt 9) hbs (byt_all 9) W (hv.still hb) h
  rwa [nine_of] at this
 go_enter Tryz.func30,Tryz.ntmps30
 go_wp2_with (first
  | (go_at_call 54;refine (hS _).mono ?_;clear hS;rintro e w1 ⟨rfl,hb1⟩)
  | (go_at_call 55;refine (hB _).mono ?_;clear hB;rintro e w2 ⟨g,rfl,hg,hr,hb2⟩)
  | (go_at_call 53;refine (hM _ _ (.inr ⟨g,0,32,rfl,block_lt_of_cell (hr 0 (by decide)).1,Nat.le_refl _,fun j hj=>(hr j hj).1⟩) (below_next hb1 hb2)).mono ?_;clear hM;rintro e w3 ⟨s,rfl,hs,hb3⟩))
 obtain ⟨g3,rfl,hg3,hr3⟩:=hs
 have s1:=hb1.size
 have s2:=hb2.size
 exact bodyPost_ret (results_tmp2 rfl _ _ _) rfl ⟨_,rfl,⟨g3,rfl,by omega,hr3⟩,below_next (below_next hb1 hb2) hb3⟩
set_option maxRecDepth 20000 in
set_option maxHeartbeats 2000000 in
theorem allZero_no (g:Nat) (w:World) (X:Nat→Nat) (hX:∃ j,j<32∧X j≠0) (hr:RowAt .u8 w g 0 32 X):Calls Tryz.prog 60 #[.slice (some ⟨g,0,none⟩) 32 32] w fun e w'=>e = .returned (.bool false)∧w'=w:=by
 go_enter Tryz.func60,Tryz.ntmps60
 go_wp2
 go_loopw [4,7] (fun _ i wr=>wr=w∧∃ k:Nat,k≤32∧i = .int .i64 (k:Int)∧∃ j,k≤j∧j<32∧X j≠0) (fun _ i _=>32 - (intOf i).toNat)
 case atStart =>
  obtain ⟨j,h1,h2⟩:=hX
  exact ⟨rfl,0,by decide,by go_num,j,Nat.zero_le _,h1,h2⟩
 case round =>
  obtain ⟨hw,k,hk,rfl,j,hkj,hj,hne⟩:=hrel
  rw [hw]
  clear hw
  have hk2:k<32:=by omega
  have hc:=(hr k hk2).1
  rw [Nat.zero_add] at hc
  have h1:(k:Int)<32:=by omega
  by_cases h0:X k=0
  · rw [h0] at hc
    have hkj2:k+1≤j:=by
     rcases Nat.eq_or_lt_of_le hkj with h | h
     · exact absurd (h ▸ h0) hne
     · exact h
    go_wp2
    go_roundw
    case rel=>exact ⟨trivial,k+1,by omega,by go_num,j,hkj2,hj,hne⟩
    case measure=>simp [intOf];omega
  · have h2:¬((X k:Int)=0):=by omega
    go_wp2
    go_ret
    exact ⟨rfl,rfl⟩
end Go.Proofs.YtcgkajlehdgpoaaGreatDoor
namespace Go.Proofs.YtcgkajlehdgpoaaGreatDoor
open Go.RowKit
theorem byt_some {N:Nat} (h:N<115792089237316195423570985008687907853269984665640564039457584007913129639936) (h0:N≠0):∃ j,j<32∧byt N j≠0:=by
 refine Classical.byContradiction fun hn=>h0 ?_
 have hz:∀ j,j<32→byt N j=(fun _=>0:Nat→Nat) j:=fun j hj=>Classical.byContradiction fun hb=>hn ⟨j,hj,hb⟩
 have e:=ofB_byt32 N h
 rw [ofB_congr 32 hz] at e
 exact e.symm.trans (by kernel_rfl)
theorem shared_some (v u:Value) (N:Nat) (hN:N≠0) (hl:N<pF) (w:World) (hM:Calls Tryz.prog 53 #[v,u] w fun e w'=>∃ s,e = .returned (.tuple #[s,.int .i64 0])∧NewB w w' s 32 (byt N)∧Below w.heap.size w w'):Calls Tryz.prog 35 #[v,u] w fun e w'=>∃ s,e = .returned (.tuple #[s,.int .i64 0])∧NewB w w' s 32 (byt N)∧Below w.heap.size w w':=by
 have hA:=fun g W=>allZero_no g W (byt N) (byt_some (Nat.lt_trans hl (by decide)) hN)
 go_enter Tryz.func35,Tryz.ntmps35
 go_wp2_with (first
  | (go_at_call 53;refine hM.mono ?_;clear hM;rintro e w1 ⟨s,rfl,⟨g,rfl,hg,hr⟩,hb1⟩)
  | (go_at_call 60;refine (hA g _ hr).mono ?_;clear hA;rintro e w2 ⟨rfl,rfl⟩))
 exact bodyPost_ret (results_tmp2 rfl _ _ _) rfl ⟨_,rfl,⟨g,rfl,hg,hr⟩,hb1⟩
end Go.Proofs.YtcgkajlehdgpoaaGreatDoor
namespace Go.Proofs.YtcgkajlehdgpoaaGreatDoor
open Go.RowKit
def NewC (w w':World) (v:Value) (n:Nat) (X:Nat→Nat):Prop:=∃ g cap,v = .slice (some ⟨g,0,none⟩) n cap∧n≤cap∧w.heap.size≤g∧RowAt .u8 w' g 0 n X
theorem NewC.bytes {w w':World} {v:Value} {n:Nat} {X:Nat→Nat} (h:NewC w w' v n X) (h0:0<n):BytesIn w' v n X:=by
 obtain ⟨g,cap,rfl,hc,-,hr⟩:=h
 exact .inr ⟨g,0,cap,rfl,block_lt_of_cell (hr 0 h0).1,hc,fun j hj=>(hr j hj).1⟩
end Go.Proofs.YtcgkajlehdgpoaaGreatDoor
namespace Go.Proofs.YtcgkajlehdgpoaaGreatDoor
open Go.RowKit
structure Rw (L:Nat→Int) (x:Nat):Prop where
 dig:Dig 65725 L
 val:valR L 16%(pF:Int)=((x%pF:Nat):Int)
theorem Rep.wide {L:Nat→Int} {x:Nat} (h:Rep L x):Rw L x:=⟨h.dig.mono (by decide),h.val⟩
theorem Rw.bd {L:Nat→Int} {x:Nat} (h:Rw L x):∀ j,j<16→-131072≤L j∧L j≤131072:=fun j hj=>by have:=h.dig.all (by decide) j hj;omega
def i16 (L:Nat→Int):List Value:=intsI 16 L
def rV (L:Nat→Int):Value := .agg (i16 L).toArray
end Go.Proofs.YtcgkajlehdgpoaaGreatDoor
namespace Go.Proofs.YtcgkajlehdgpoaaGreatDoor
open Go.RowKit
theorem But.of_below {bad:Nat→Prop} {w w':World} (h:Below w.heap.size w w'):But bad w w':=⟨h.os,h.tape,h.output,h.size,fun k hk _=>h.block k hk⟩
end Go.Proofs.YtcgkajlehdgpoaaGreatDoor
namespace Go.Proofs.YtcgkajlehdgpoaaGreatDoor
open Go.RowKit
structure R4 where
 xl:Nat→Int
 zl:Nat→Int
 xh:Nat→Int
 zh:Nat→Int
structure R4.Rep (r:R4) (s:L4):Prop where
 xl:Go.Proofs.YtcgkajlehdgpoaaGreatDoor.Rep r.xl s.xl
 zl:Go.Proofs.YtcgkajlehdgpoaaGreatDoor.Rep r.zl s.zl
 xh:Go.Proofs.YtcgkajlehdgpoaaGreatDoor.Rep r.xh s.xh
 zh:Go.Proofs.YtcgkajlehdgpoaaGreatDoor.Rep r.zh s.zh
def R4.flip (r:R4):R4:=⟨r.xh,r.zh,r.xl,r.zl⟩
theorem R4.Rep.flip {r:R4} {s:L4} (h:r.Rep s):r.flip.Rep s.flip:=⟨h.xh,h.zh,h.xl,h.zl⟩
theorem Rep.far {L:Nat→Int} {x:Nat} (h:Rep L x):∀ j,j<16→-1073741824≤L j∧L j≤1073741824:=fun j hj=>by have:=h.bd j hj;omega
end Go.Proofs.YtcgkajlehdgpoaaGreatDoor
namespace Go.Proofs.YtcgkajlehdgpoaaGreatDoor
open Go.RowKit
theorem bitN_congr {a b:Nat→Nat} (h:∀ j,j<32→a j=b j) {i:Nat} (hi:i≤254):bitN a i=bitN b i:=by
 unfold bitN;rw [h (i / 8) (by omega)]
theorem climbL_congr {a b:Nat→Nat} (h:∀ j,j<32→a j=b j) (u:Nat):∀ j,climbL u a j=climbL u b j
 | 0=>rfl
 | j+1=>by unfold climbL;rw [climbL_congr h u j,bitN_congr h (by omega)]
theorem mulL_congr {a b:Nat→Nat} (h:∀ j,j<32→a j=b j) (u:Nat):mulL a u=mulL b u:=by
 unfold mulL;rw [climbL_congr h u 255]
theorem loB_byt {N:Nat} (h:N<pF):ofB (loB (byt N)) 32%pF=N:=by
 have e:∀ j,j<32→loB (byt N) j=byt N j:=fun j _=>by
  unfold loB
  by_cases h31:j=31
  · rw [if_pos h31,h31]
    refine Nat.mod_eq_of_lt ?_
    unfold byt
    have:N / 256 ^ 31<128:=Nat.div_lt_of_lt_mul (Nat.lt_of_lt_of_le h (by decide))
    exact Nat.lt_of_le_of_lt (Nat.mod_le _ _) this
  · rw [if_neg h31]
 rw [ofB_congr 32 e,ofB_byt32 N (Nat.lt_trans h (by decide)),Nat.mod_eq_of_lt h]
theorem NewB.src {w w':World} {g:Nat} {X:Nat→Nat} (hr:RowAt .u8 w' g 0 32 X) (_h:w=w):BytesIn w' (.slice (some ⟨g,0,none⟩) 32 32) 32 X := .inr ⟨g,0,32,rfl,block_lt_of_cell (hr 0 (by decide)).1,Nat.le_refl _,fun j hj=>(hr j hj).1⟩
end Go.Proofs.YtcgkajlehdgpoaaGreatDoor
namespace Go.Proofs.YtcgkajlehdgpoaaGreatDoor
open Go.RowKit
theorem lxN_lt (suite:List Nat) (sn:Nat) (salt:Nat→Nat) (label:List Nat) (m:Nat) (ikm:Nat→Nat) (j:Nat):lxN suite sn salt label m ikm j<256:=tagH_lt _ _ _ _
theorem leN_lt (suite:List Nat) (pn:Nat) (prk:Nat→Nat) (label:List Nat) (m:Nat) (info:Nat→Nat) (N j:Nat):leN suite pn prk label m info N j<256:=by
 unfold leN outF
 split
 · exact tE_lt _ _ _ _ _
 · decide
theorem lKem_lt:∀ x,x∈lKem→x<256:=by decide
theorem lAll_lt:∀ x,x∈lAll→x<256:=by decide
theorem BytesIn.nil0 (w:World) (X:Nat→Nat):BytesIn w (.slice none 0 0) 0 X := .inl ⟨none,rfl,rfl⟩
theorem lZ_lt:∀ j,lZ j<256:=fun _=>(by decide:0<256)
def puN (s:Nat→Nat):Nat→Nat:=byt (mulL (clB s) 9)
end Go.Proofs.YtcgkajlehdgpoaaGreatDoor
namespace Go.Proofs.YtcgkajlehdgpoaaGreatDoor
open Go.RowKit
def sdN (k u:Nat→Nat):Nat:=mulL (clB k) (ofB (loB u) 32%pF)
theorem sdN_lt (k u:Nat→Nat):sdN k u<pF:=fmul_lt _ _
theorem shN2_lt (dh enc pub:Nat→Nat) (j:Nat):shN2 dh enc pub j<256:=leN_lt _ _ _ _ _ _ _ _
theorem dsN_lt (m:Nat) (ikm:Nat→Nat) (j:Nat):dsN m ikm j<256:=leN_lt _ _ _ _ _ _ _ _
theorem puN_lt (s:Nat→Nat) (j:Nat):puN s j<256:=byt_lt _ _
end Go.Proofs.YtcgkajlehdgpoaaGreatDoor
namespace Go.Proofs.YtcgkajlehdgpoaaGreatDoor
open Go.RowKit
abbrev NewR (w w':World) (s:Value) (n:Nat) (X:Nat→Nat):Prop:=∃ g,s = .slice (some ⟨g,0,none⟩) n n∧w.heap.size≤g∧RowAt .u8 w' g 0 n X
theorem NewR.bytes {w w':World} {s:Value} {n:Nat} {X:Nat→Nat} (h0:0<n) (h:NewR w w' s n X):BytesIn w' s n X:=by
 obtain ⟨g,rfl,-,hr⟩:=h
 exact row_bytes h0 hr
theorem ckem (label:List Nat) (hl:∀ x,x∈label→x<256) (hz:label.length≤50) (tv:Value) (cnt m:Nat) (t:Nat→Nat) (ht:∀ j,t j<256) (hc:cnt<1000000) (hm:m+300<140737488355000) (w:World) (hT:HTab w cubeK squareK) (h2:Texts w tv cnt m t) :
 Calls Tryz.prog 29 #[.string { data:=#[75,69,77,0,32] },.slice none 0 0,.string (strL label),tv] w fun e w'=>∃ s,e = .returned s∧BytesIn w' s 32 (lxN lKem 0 lZ label m t)∧Below w.heap.size w w' :=
 cextract_any lKem label lKem_lt hl (by show 5+label.length≤100;omega) (.slice none 0 0) tv 0 cnt m lZ t lZ_lt ht (by decide) hc hm w hT (BytesIn.nil0 _ _) h2
theorem ekem (label:List Nat) (hl:∀ x,x∈label→x<256) (hz:label.length≤50) (pv tv:Value) (cnt m:Nat) (prk t:Nat→Nat) (hp:∀ j,prk j<256) (ht:∀ j,t j<256) (hc:cnt<1000000) (hm:m+300<140737488355000) (w:World) (hT:HTab w cubeK squareK) (h1:BytesIn w pv 32 prk) (h2:Texts w tv cnt m t) :
 Calls Tryz.prog 28 #[.string { data:=#[75,69,77,0,32] },pv,.int .i64 32,.string (strL label),tv] w fun e w'=>∃ s,e = .returned s∧NewR w w' s 32 (leN lKem 32 prk label m t 32)∧Below w.heap.size w w' :=
 cexpand_any lKem label lKem_lt hl (by show 5+label.length≤100;omega) pv tv 32 cnt m 32 prk t (by decide) hp ht (by decide) hc hm w hT h1 h2
set_option maxRecDepth 20000 in
set_option maxHeartbeats 2000000 in
theorem cDerive_any (v:Value) (m:Nat) (ikm:Nat→Nat) (hikm:∀ j,ikm j<256) (hm:m+300<140737488355000) (w:World) (hT:HTab w cubeK squareK) (hv:BytesIn w v m ikm) :
 Calls Tryz.prog 9 #[v] w fun e w'=>∃ s p,e = .returned (.tuple #[s,p])∧BytesIn w' s 32 (dsN m ikm)∧BytesIn w' p 32 (puN (dsN m ikm))∧Below w.heap.size w w':=by
 obtain ⟨xv,cv,rfl,-,-,-⟩:=hv.src
 have b0:Below w.heap.size w (w.alloc (.cells #[.slice xv m cv] 22)):=(Below.refl _ _).alloc (Nat.le_refl _) _
 have hx:Calls Tryz.prog 29 #[.string { data:=#[75,69,77,0,32] },.slice none 0 0,.string { data:=#[100,107,112,95,112,114,107] },.slice (some ⟨w.heap.size,0,none⟩) 1 1] (w.alloc (.cells #[.slice xv m cv] 22)) _:=ckem lDkp (by decide) (by decide) _ 1 m ikm hikm (by decide) hm _ (hT.keep b0) (texts_one w _ m ikm hv)
 have he:∀ pv W,Below w.heap.size w W→BytesIn W pv 32 (lxN lKem 0 lZ lDkp m ikm)→Calls Tryz.prog 28 #[.string { data:=#[75,69,77,0,32] },pv,.int .i64 32,.string { data:=#[115,107] },.slice none 0 0] W _:=fun pv W hb hp=>ekem lSk (by decide) (by decide) pv (.slice none 0 0) 0 0 _ lZ (lxN_lt _ _ _ _ _ _) lZ_lt (by decide) (by decide) W (hT.keep hb) hp (texts_none W lZ)
 have hp:=fun s W (hs:BytesIn W s 32 (dsN m ikm))=>public_good s (dsN m ikm) (leN_lt _ _ _ _ _ _ _) W hs
 obtain ⟨X,hX⟩:∃ X,X=lxN lKem 0 lZ lDkp m ikm:=⟨_,rfl⟩
 obtain ⟨D,hD⟩:∃ D,D=dsN m ikm:=⟨_,rfl⟩
 have hD2:leN lKem 32 X lSk 0 lZ 32=D:=by rw [hD,hX];rfl
 rw [←hX] at hx he
 rw [hD2] at he
 rw [←hD] at hp ⊢
 obtain ⟨P,hP⟩:∃ P,P=puN D:=⟨_,rfl⟩
 have hP2:byt (mulL (clB D) 9)=P:=hP.symm
 rw [hP2] at hp
 rw [←hP]
 clear hX hD hD2 hP hP2 hv
 go_enter Tryz.func9,Tryz.ntmps9
 go_wp2_with (first
  | (go_at_call 29;refine hx.mono ?_;clear hx;rintro e w3 ⟨x3,rfl,o3,hb3⟩;(have b3:=below_next b0 hb3);(have e3:=he x3 w3 b3 o3);clear he)
  | (go_at_call 28;refine e3.mono ?_;clear e3;rintro e w4 ⟨s4,rfl,o4,hb4⟩;(have b4:=below_next b3 hb4);(replace o4:=NewR.bytes (by decide) o4);(have p4:=hp s4 w4 o4);clear hp)
  | (go_at_call 30;refine p4.mono ?_;clear p4;rintro e w5 ⟨s5,rfl,o5,hb5⟩;(have b5:=below_next b4 hb5)))
 go_ret2
 exact ⟨s4,s5,rfl,o4.keep hb5,NewR.bytes (by decide) o5,b5⟩
set_option maxRecDepth 20000 in
set_option maxHeartbeats 2000000 in
theorem cmutual_any (dv ev pv:Value) (dh enc pub:Nat→Nat) (hdh:∀ j,dh j<256) (henc:∀ j,enc j<256) (hpub:∀ j,pub j<256) (w:World) (hT:HTab w cubeK squareK) (h1:BytesIn w dv 32 dh) (h2:BytesIn w ev 32 enc) (h3:BytesIn w pv 32 pub) :
 Calls Tryz.prog 36 #[dv,ev,pv] w fun e w'=>∃ s,e = .returned s∧BytesIn w' s 32 (shN2 dh enc pub)∧Below w.heap.size w w':=by
 obtain ⟨x1,c1,rfl,-,-,-⟩:=h1.src
 obtain ⟨x2,c2,rfl,-,-,-⟩:=h2.src
 obtain ⟨x3,c3,rfl,-,-,-⟩:=h3.src
 have b0:Below w.heap.size w (w.alloc (.cells #[.slice x1 32 c1] 22)):=(Below.refl _ _).alloc (Nat.le_refl _) _
 have hx:Calls Tryz.prog 29 #[.string { data:=#[75,69,77,0,32] },.slice none 0 0,.string { data:=#[101,97,101,95,112,114,107] },.slice (some ⟨w.heap.size,0,none⟩) 1 1] (w.alloc (.cells #[.slice x1 32 c1] 22)) _:=ckem lEae (by decide) (by decide) _ 1 32 dh hdh (by decide) (by decide) _ (hT.keep b0) (texts_one w _ 32 dh h1)
 have he:∀ kv W,Below w.heap.size w W→BytesIn W kv 32 (lxN lKem 0 lZ lEae 32 dh)→Calls Tryz.prog 28 #[.string { data:=#[75,69,77,0,32] },kv,.int .i64 32,.string { data:=#[115,104,97,114,101,100,95,115,101,99,114,101,116] },.slice (some ⟨W.heap.size,0,none⟩) 2 2] (W.alloc (.cells #[.slice x2 32 c2,.slice x3 32 c3] 22)) _:=fun kv W hb hp=>ekem lSs (by decide) (by decide) kv _ 2 64 _ (catL [(32,enc),(32,pub)]) (lxN_lt _ _ _ _ _ _) (catL_lt _ (by
  intro p hp
  simp only [List.mem_cons,List.not_mem_nil,or_false] at hp
  rcases hp with rfl | rfl
  · exact henc
  · exact hpub)) (by decide) (by decide) _ (hT.keep (hb.alloc hb.size _)) (hp.keep ((Below.refl _ _).alloc (Nat.le_refl _) _)) (texts_two W _ _ 32 32 enc pub (h2.keep hb) (h3.keep hb))
 obtain ⟨X,hX⟩:∃ X,X=lxN lKem 0 lZ lEae 32 dh:=⟨_,rfl⟩
 obtain ⟨D,hD⟩:∃ D,D=shN2 dh enc pub:=⟨_,rfl⟩
 have hD2:leN lKem 32 X lSs 64 (catL [(32,enc),(32,pub)]) 32=D:=by rw [hD,hX];rfl
 rw [←hX] at hx he
 rw [hD2] at he
 rw [←hD]
 clear hX hD hD2 h1 h2 h3
 go_enter Tryz.func36,Tryz.ntmps36
 go_wp2_with (first
  | (go_at_call 29;refine hx.mono ?_;clear hx;rintro e w3 ⟨x3,rfl,o3,hb3⟩;(have b3:=below_next b0 hb3);(have e3:=he x3 w3 b3 o3);clear he)
  | (go_at_call 28;refine e3.mono ?_;clear e3;rintro e w4 ⟨s4,rfl,o4,hb4⟩))
 go_ret
 exact ⟨s4,rfl,NewR.bytes (by decide) o4,below_next (b3.alloc b3.size _) hb4⟩
theorem csh_some (v u:Value) (k x:Nat→Nat) (hk:∀ j,k j<256) (hx:∀ j,x j<256) (h0:sdN k x≠0) (w:World) (hv:BytesIn w v 32 k) (hu:BytesIn w u 32 x) :
 Calls Tryz.prog 35 #[v,u] w fun e w'=>∃ s,e = .returned (.tuple #[s,.int .i64 0])∧NewB w w' s 32 (byt (sdN k x))∧Below w.heap.size w w' :=
 shared_some v u (sdN k x) h0 (sdN_lt k x) w (lmul_good v u k x hk hx w hv hu)
set_option maxRecDepth 20000 in
set_option maxHeartbeats 2000000 in
theorem cDecap_some (v u:Value) (k x:Nat→Nat) (hk:∀ j,k j<256) (hx:∀ j,x j<256) (h0:sdN k x≠0) (w:World) (hT:HTab w cubeK squareK) (hv:BytesIn w v 32 k) (hu:BytesIn w u 32 x) :
 Calls Tryz.prog 13 #[v,u] w fun e w'=>∃ s,e = .returned (.tuple #[s,.int .i64 0])∧BytesIn w' s 32 (shN2 (byt (sdN k x)) x (puN k))∧Below w.heap.size w w':=by
 have hs:=csh_some v u k x hk hx h0 w hv hu
 have hp:=fun W hb=>public_good v k hk W (hv.keep hb)
 have hm:=fun d p W hd hb hp=>cmutual_any d u p (byt (sdN k x)) x (puN k) (byt_lt _) hx (puN_lt _) W (hT.keep hb) hd (hu.keep hb) hp
 obtain ⟨T,hT'⟩:∃ T,T=shN2 (byt (sdN k x)) x (puN k):=⟨_,rfl⟩
 obtain ⟨D,hD⟩:∃ D,D=byt (sdN k x):=⟨_,rfl⟩
 obtain ⟨P,hP⟩:∃ P,P=puN k:=⟨_,rfl⟩
 have hP2:byt (mulL (clB k) 9)=P:=hP.symm
 rw [←hT'] at hm ⊢
 rw [←hD] at hs hm
 rw [hP2] at hp
 rw [←hP] at hm
 obtain ⟨x1,c1,rfl,-,-,-⟩:=hv.src
 obtain ⟨x2,c2,rfl,-,-,-⟩:=hu.src
 clear hv hu hT' hD hP hP2 hT
 go_enter Tryz.func13,Tryz.ntmps13
 go_wp2_with (first
  | (go_at_call 35;refine hs.mono ?_;clear hs;rintro e w1 ⟨s1,rfl,o1,b1⟩;(replace o1:=NewR.bytes (by decide) o1);(have p1:=hp w1 b1);clear hp)
  | (go_at_call 30;refine p1.mono ?_;clear p1;rintro e w2 ⟨s2,rfl,o2,hb2⟩;(have b2:=below_next b1 hb2);(have m2:=hm s1 s2 w2 (o1.keep hb2) b2 (NewR.bytes (by decide) o2));clear hm)
  | (go_at_call 36;refine m2.mono ?_;clear m2;rintro e w3 ⟨s3,rfl,o3,hb3⟩))
 go_ret2
 exact ⟨s3,rfl,o3,below_next b2 hb3⟩
set_option maxRecDepth 20000 in
set_option maxHeartbeats 2000000 in
theorem cEncap_some (u v:Value) (m:Nat) (x ikm:Nat→Nat) (hx:∀ j,x j<256) (hikm:∀ j,ikm j<256) (hm:m+300<140737488355000) (h0:sdN (dsN m ikm) x≠0) (w:World) (hT:HTab w cubeK squareK) (hu:BytesIn w u 32 x) (hv:BytesIn w v m ikm) :
 Calls Tryz.prog 11 #[u,v] w fun e w'=>∃ s p,e = .returned (.tuple #[s,p,.int .i64 0])∧BytesIn w' s 32 (shN2 (byt (sdN (dsN m ikm) x)) (puN (dsN m ikm)) x)∧BytesIn w' p 32 (puN (dsN m ikm))∧Below w.heap.size w w':=by
 have hd:=cDerive_any v m ikm hikm hm w hT hv
 have hs:=fun s W hb hs=>csh_some s u (dsN m ikm) x (dsN_lt _ _) hx h0 W hs (hu.keep hb)
 have hmu:=fun d p W hd hp hb=>cmutual_any d p u (byt (sdN (dsN m ikm) x)) (puN (dsN m ikm)) x (byt_lt _) (puN_lt _) hx W (hT.keep hb) hd hp (hu.keep hb)
 obtain ⟨T,hT'⟩:∃ T,T=shN2 (byt (sdN (dsN m ikm) x)) (puN (dsN m ikm)) x:=⟨_,rfl⟩
 rw [←hT'] at hmu ⊢
 obtain ⟨Z,hZ⟩:∃ Z,Z=byt (sdN (dsN m ikm) x):=⟨_,rfl⟩
 rw [←hZ] at hmu hs
 obtain ⟨D,hD⟩:∃ D,D=dsN m ikm:=⟨_,rfl⟩
 rw [←hD] at hd hs hmu ⊢
 obtain ⟨P,hP⟩:∃ P,P=puN D:=⟨_,rfl⟩
 rw [←hP] at hd hmu ⊢
 obtain ⟨x1,c1,rfl,-,-,-⟩:=hu.src
 obtain ⟨x2,c2,rfl,-,-,-⟩:=hv.src
 clear hv hu h0 hD hP hT' hZ hT
 go_enter Tryz.func11,Tryz.ntmps11
 go_wp2_with (first
  | (go_at_call 9;refine hd.mono ?_;clear hd;rintro e w1 ⟨s1,p1,rfl,o1,q1,b1⟩;(have s2:=hs s1 w1 b1 o1);clear hs)
  | (go_at_call 35;refine s2.mono ?_;clear s2;rintro e w2 ⟨d2,rfl,o2,hb2⟩;(have b2:=below_next b1 hb2);(replace q1:=q1.keep hb2);(have m3:=hmu d2 p1 w2 (NewR.bytes (by decide) o2) q1 b2);clear hmu)
  | (go_at_call 36;refine m3.mono ?_;clear m3;rintro e w3 ⟨s3,rfl,o3,hb3⟩))
 go_ret3
 exact ⟨s3,p1,rfl,o3,q1.keep hb3,below_next b2 hb3⟩
end Go.Proofs.YtcgkajlehdgpoaaGreatDoor
namespace Go.Proofs.YtcgkajlehdgpoaaGreatDoor
open Go.RowKit
def RCtx (w:World) (g:Nat) (K N X:Nat→Nat) (n:Nat):Prop:=∃ k u x,RW w g 0 [k,u,x,.int .i64 (n:Int)]∧BytesIn w k 16 K∧BytesIn w u 12 N∧BytesIn w x 32 X
theorem RCtx.keep {w w':World} {g:Nat} {K N X:Nat→Nat} {n:Nat} (h:RCtx w g K N X n) (hb:Below w.heap.size w w'):RCtx w' g K N X n:=by
 obtain ⟨k,u,x,r,h1,h2,h3⟩:=h
 exact ⟨k,u,x,r.still hb,h1.keep hb,h2.keep hb,h3.keep hb⟩
end Go.Proofs.YtcgkajlehdgpoaaGreatDoor
