/- What the proof stands on: LRung, LBegin, LIter, LMath. -/
import Derived.Test.YtibdhadbflfdpaaGreatDoorLStep
import Derived.Test.YtibdhadbflfdpaaGreatDoorLentM
import Derived.LoopIn
import Derived.LoopNIn
import Derived.OwnWalkIn
import Derived.RangeFuncBound
import Derived.RangeFuncCalls
import Derived.RangeFuncLeaves
import Derived.RangeFuncNested
import Derived.Shelf.Abstract
import Derived.Shelf.RegionOpen
import Derived.TacticsInMore
namespace Go.Proofs.YtibdhadbflfdpaaGreatDoor
open Go.RowKit
set_option maxRecDepth 20000 in
set_option maxHeartbeats 4000000 in
theorem swap_any (xl zl xh zh g:Nat) (w:World) (hp:RW w g 0 (c8 xl zl)) (hq:RW w g 8 (c8 xh zh)) :
 Calls Tryz.prog 274 #[.pointer (some ⟨g,0,none⟩)] w fun e w'=>e = .returned (.tuple #[])∧Out g 0 16 w w'∧RW w' g 0 (c8 xh zh)∧RW w' g 8 (c8 xl zl):=by
 have hgl:=hp.lt
 go_enter Tryz.func274,Tryz.ntmps274
 go_wp2
 have hdrew:Below w.heap.size w w.drew:=(Below.refl _ _).drew
 replace hp:=hp.still hdrew
 replace hq:=hq.still hdrew
 refine wp_region_noPanic ?_
 refine wp_region_held_drew (S:=fun _=>True) (by kernel_rfl) trivial (fun _ => ?_)
 generalize w.drew=Vs at *
 refine wpAnyH_take (i:=0) (oi:=oN 2 (Op.move (oT 0)) 296 "climb.go:30" #[]) (v := ?vs1) rfl (by kernel_rfl) (by kernel_rfl) (by kernel_rfl) (fun _ _ _ h=>h) (Or.inl ⟨by rfl,?hs1⟩) trivial ?rs1
 case hs1 =>
  intro w hSw
  go_simp
  try with_reducible rfl
 (try simp only [pS])
 refine wpAnyH_take (i:=1) (oi:=oN 3 (Op.move (oT 0)) 296 "climb.go:30" #[jO 12]) (v := ?vs2) rfl (by kernel_rfl) (by kernel_rfl) (by kernel_rfl) (fun _ _ _ h=>h) (Or.inl ⟨by rfl,?hs2⟩) trivial ?rs2
 case hs2 =>
  intro w hSw
  go_simp
  try with_reducible rfl
 (try simp only [pS])
 refine wpAnyH_take (i:=2) (oi:=oN 4 (Op.move (oT 0)) 296 "climb.go:30" #[]) (v := ?vs3) rfl (by kernel_rfl) (by kernel_rfl) (by kernel_rfl) (fun _ _ _ h=>h) (Or.inl ⟨by rfl,?hs3⟩) trivial ?rs3
 case hs3 =>
  intro w hSw
  go_simp
  try with_reducible rfl
 (try simp only [pS])
 refine wpAnyH_take (i:=3) (oi:=oN 5 (Op.nilCheck (oT 4)) 0 "climb.go:30" #[jD 2]) (v := ?vs4) rfl (by kernel_rfl) (by kernel_rfl) (by kernel_rfl) (fun _ _ _ h=>h) (Or.inl ⟨by rfl,?hs4⟩) trivial ?rs4
 case hs4 =>
  intro w hSw
  go_simp
  try with_reducible rfl
 (try simp only [pS])
 refine wpAnyH_take (i:=4) (oi:=oN 6 (Op.fieldAddr 279 (oT 5) 1) 0 "climb.go:30" #[jD 3]) (v := ?vs5) rfl (by kernel_rfl) (by kernel_rfl) (by kernel_rfl) (fun _ _ _ h=>h) (Or.inl ⟨by rfl,?hs5⟩) trivial ?rs5
 case hs5 =>
  intro w hSw
  go_simp
  try with_reducible rfl
 (try simp only [pS])
 refine wpAnyH_take (i:=6) (oi:=oN 8 (Op.move (oT 0)) 296 "climb.go:30" #[]) (v := ?vs6) rfl (by kernel_rfl) (by kernel_rfl) (by kernel_rfl) (fun _ _ _ h=>h) (Or.inl ⟨by rfl,?hs6⟩) trivial ?rs6
 case hs6 =>
  intro w hSw
  go_simp
  try with_reducible rfl
 (try simp only [pS])
 refine wpAnyH_take (i:=7) (oi:=oN 9 (Op.nilCheck (oT 8)) 0 "climb.go:30" #[jD 6]) (v := ?vs7) rfl (by kernel_rfl) (by kernel_rfl) (by kernel_rfl) (fun _ _ _ h=>h) (Or.inl ⟨by rfl,?hs7⟩) trivial ?rs7
 case hs7 =>
  intro w hSw
  go_simp
  try with_reducible rfl
 (try simp only [pS])
 refine wpAnyH_take (i:=8) (oi:=oN 10 (Op.fieldAddr 279 (oT 9) 0) 0 "climb.go:30" #[jD 7]) (v := ?vs8) rfl (by kernel_rfl) (by kernel_rfl) (by kernel_rfl) (fun _ _ _ h=>h) (Or.inl ⟨by rfl,?hs8⟩) trivial ?rs8
 case hs8 =>
  intro w hSw
  go_simp
  try with_reducible rfl
 (try simp only [pS])
 refine wpAnyH_ready (rs:=[5,9]) (by kernel_rfl) (by simp) ?_
 refine AllReadyH.cons (o:=oN 7 (Op.load 277 (oT 6)) 277 "climb.go:30" #[jD 4]) rfl (fun K hK => ?_) (AllReadyH.cons (o:=oN 11 (Op.load 277 (oT 10)) 277 "climb.go:30" #[jD 8]) rfl (fun K hK => ?_) (AllReadyH.nil))
 · rw [if_pos (by rfl)]
   refine wp_load_mid 277 _ rfl g 8 rfl (c8 xh zh) _ hq.range Tryz.underlying277 rfl info8 ?_
   refine hK.out _ _ trivial (fun h => ?_)
   clear h hK K
   rw [show Value.agg (c8 xh zh).toArray=ratV xh zh from rfl]
   (try simp only [pS])
   refine wpAnyH_ready (rs:=[9]) (by kernel_rfl) (by simp) ?_
   refine AllReadyH.cons (o:=oN 11 (Op.load 277 (oT 10)) 277 "climb.go:30" #[jD 8]) rfl (fun K hK => ?_) (AllReadyH.nil)
   rw [if_pos (by rfl)]
   refine wp_load_mid 277 _ rfl g 0 rfl (c8 xl zl) _ hp.range Tryz.underlying277 rfl info8 ?_
   refine hK.out _ _ trivial (fun h => ?_)
   clear h hK K
   rw [show Value.agg (c8 xl zl).toArray=ratV xl zl from rfl]
   (try simp only [pS])
   refine wpAnyH_take (i:=10) (oi:=oN 12 (Op.nilCheck (oT 2)) 0 "climb.go:30" #[jD 0,jP 0,jT 1,jP 2,jP 3,jP 4,jP 5,jT 6,jU 7,jU 8,jP 9]) (v := ?vs11) rfl (by kernel_rfl) (by kernel_rfl) (by kernel_rfl) (fun _ _ _ h=>h) (Or.inl ⟨by rfl,?hs11⟩) trivial ?rs11
   case hs11 =>
    intro w hSw
    go_simp
    try with_reducible rfl
   (try simp only [pS])
   refine wpAnyH_take (i:=11) (oi:=oN 13 (Op.fieldAddr 279 (oT 12) 0) 0 "climb.go:30" #[jD 10,jP 0,jT 1,jP 2,jP 3,jP 4,jP 5,jT 6,jU 7,jU 8,jP 9]) (v := ?vs12) rfl (by kernel_rfl) (by kernel_rfl) (by kernel_rfl) (fun _ _ _ h=>h) (Or.inl ⟨by rfl,?hs12⟩) trivial ?rs12
   case hs12 =>
    intro w hSw
    go_simp
    try with_reducible rfl
   (try simp only [pS])
   refine wpAnyH_ready (rs:=[12]) (by kernel_rfl) (by simp) ?_
   refine AllReadyH.cons (o:=oS (Op.store 277 (oT 13) (oT 7)) "climb.go:30" #[jD 11,jD 5,jP 0,jT 1,jP 2,jP 3,jP 4,jP 5,jT 6,jU 7,jU 8,jP 9]) rfl (fun K hK => ?_) (AllReadyH.nil)
   rw [if_pos (by rfl)]
   refine wp_store_mid 277 _ _ rfl g 0 (c8 xh zh).toArray rfl rfl hp.there info8 (one8 _ _) ?_
   have Os13:=Out.setCells (b:=g) (o:=0) (n:=(c8 xh zh).length) Vs (c8 xh zh) (Nat.le_refl _) (Nat.le_refl _)
   replace hp:=hp.stored (c8 xh zh) rfl
   replace hq:=hq.far g 0 (c8 xh zh) (by simp [c8,c4])
   obtain ⟨ws13,hws13⟩:∃ W,Vs.setCells g 0 (c8 xh zh)=W:=⟨_,rfl⟩
   rw [hws13] at hq
   rw [hws13] at hp
   rw [hws13] at Os13
   rw [show Vs.setCells g 0 (c8 xh zh).toArray.toList=ws13 from hws13]
   refine hK.out _ _ trivial (fun h => ?_)
   clear h hK K hws13
   (try dsimp only [Act.put])
   refine wpAnyH_take (i:=13) (oi:=oN 14 (Op.nilCheck (oT 3)) 0 "climb.go:30" #[jD 1,jP 0,jP 1,jP 2,jP 3,jP 4,jP 5,jP 6,jP 7,jP 8,jP 9,jP 10,jP 11,jP 12]) (v := ?vs14) rfl (by kernel_rfl) (by kernel_rfl) (by kernel_rfl) (fun _ _ _ h=>h) (Or.inl ⟨by rfl,?hs14⟩) trivial ?rs14
   case hs14 =>
    intro w hSw
    go_simp
    try with_reducible rfl
   (try simp only [pS])
   refine wpAnyH_take (i:=14) (oi:=oN 15 (Op.fieldAddr 279 (oT 14) 1) 0 "climb.go:30" #[jD 13,jP 0,jP 1,jP 2,jP 3,jP 4,jP 5,jP 6,jP 7,jP 8,jP 9,jP 10,jP 11,jP 12]) (v := ?vs15) rfl (by kernel_rfl) (by kernel_rfl) (by kernel_rfl) (fun _ _ _ h=>h) (Or.inl ⟨by rfl,?hs15⟩) trivial ?rs15
   case hs15 =>
    intro w hSw
    go_simp
    try with_reducible rfl
   (try simp only [pS])
   refine wpAnyH_ready (rs:=[15]) (by kernel_rfl) (by simp) ?_
   refine AllReadyH.cons (o:=oS (Op.store 277 (oT 15) (oT 11)) "climb.go:30" #[jD 14,jD 9,jC 12,jP 0,jP 1,jP 2,jP 3,jP 4,jP 5,jP 6,jP 7,jP 8,jP 9,jP 10,jP 11,jP 12]) rfl (fun K hK => ?_) (AllReadyH.nil)
   rw [if_pos (by rfl)]
   refine wp_store_mid 277 _ _ rfl g 8 (c8 xl zl).toArray rfl rfl hq.there info8 (one8 _ _) ?_
   have Os16:=Out.setCells (b:=g) (o:=8) (n:=(c8 xl zl).length) ws13 (c8 xl zl) (Nat.le_refl _) (Nat.le_refl _)
   replace hq:=hq.stored (c8 xl zl) rfl
   replace hp:=hp.far g 8 (c8 xl zl) (by simp [c8,c4])
   obtain ⟨ws16,hws16⟩:∃ W,ws13.setCells g 8 (c8 xl zl)=W:=⟨_,rfl⟩
   rw [hws16] at hp
   rw [hws16] at hq
   rw [hws16] at Os16
   rw [show ws13.setCells g 8 (c8 xl zl).toArray.toList=ws16 from hws16]
   refine hK.out _ _ trivial (fun h => ?_)
   clear h hK K hws16
   (try dsimp only [Act.put])
   refine wpAnyH_done (by kernel_rfl) ?_ _
   refine NoPanic.normal ?_
   go_wp2
   exact bodyPost_end (results_none Tryz.results274 _ _ _) rfl ⟨rfl,((Out.of_below hdrew hgl).trans (Out.wide (by assumption) (by decide) (by simp [c8,c4]))).trans (Out.wide (by assumption) (by decide) (by simp [c8,c4])),hp,hq⟩
 · rw [if_pos (by rfl)]
   refine wp_load_mid 277 _ rfl g 0 rfl (c8 xl zl) _ hp.range Tryz.underlying277 rfl info8 ?_
   refine hK.out _ _ trivial (fun h => ?_)
   clear h hK K
   rw [show Value.agg (c8 xl zl).toArray=ratV xl zl from rfl]
   (try simp only [pS])
   refine wpAnyH_ready (rs:=[5]) (by kernel_rfl) (by simp) ?_
   refine AllReadyH.cons (o:=oN 7 (Op.load 277 (oT 6)) 277 "climb.go:30" #[jD 4]) rfl (fun K hK => ?_) (AllReadyH.nil)
   rw [if_pos (by rfl)]
   refine wp_load_mid 277 _ rfl g 8 rfl (c8 xh zh) _ hq.range Tryz.underlying277 rfl info8 ?_
   refine hK.out _ _ trivial (fun h => ?_)
   clear h hK K
   rw [show Value.agg (c8 xh zh).toArray=ratV xh zh from rfl]
   (try simp only [pS])
   refine wpAnyH_take (i:=10) (oi:=oN 12 (Op.nilCheck (oT 2)) 0 "climb.go:30" #[jD 0,jP 0,jT 1,jP 2,jP 3,jP 4,jP 5,jT 6,jU 7,jU 8,jP 9]) (v := ?vs19) rfl (by kernel_rfl) (by kernel_rfl) (by kernel_rfl) (fun _ _ _ h=>h) (Or.inl ⟨by rfl,?hs19⟩) trivial ?rs19
   case hs19 =>
    intro w hSw
    go_simp
    try with_reducible rfl
   (try simp only [pS])
   refine wpAnyH_take (i:=11) (oi:=oN 13 (Op.fieldAddr 279 (oT 12) 0) 0 "climb.go:30" #[jD 10,jP 0,jT 1,jP 2,jP 3,jP 4,jP 5,jT 6,jU 7,jU 8,jP 9]) (v := ?vs20) rfl (by kernel_rfl) (by kernel_rfl) (by kernel_rfl) (fun _ _ _ h=>h) (Or.inl ⟨by rfl,?hs20⟩) trivial ?rs20
   case hs20 =>
    intro w hSw
    go_simp
    try with_reducible rfl
   (try simp only [pS])
   refine wpAnyH_ready (rs:=[12]) (by kernel_rfl) (by simp) ?_
   refine AllReadyH.cons (o:=oS (Op.store 277 (oT 13) (oT 7)) "climb.go:30" #[jD 11,jD 5,jP 0,jT 1,jP 2,jP 3,jP 4,jP 5,jT 6,jU 7,jU 8,jP 9]) rfl (fun K hK => ?_) (AllReadyH.nil)
   rw [if_pos (by rfl)]
   refine wp_store_mid 277 _ _ rfl g 0 (c8 xh zh).toArray rfl rfl hp.there info8 (one8 _ _) ?_
   have Os21:=Out.setCells (b:=g) (o:=0) (n:=(c8 xh zh).length) Vs (c8 xh zh) (Nat.le_refl _) (Nat.le_refl _)
   replace hp:=hp.stored (c8 xh zh) rfl
   replace hq:=hq.far g 0 (c8 xh zh) (by simp [c8,c4])
   obtain ⟨ws21,hws21⟩:∃ W,Vs.setCells g 0 (c8 xh zh)=W:=⟨_,rfl⟩
   rw [hws21] at hq
   rw [hws21] at hp
   rw [hws21] at Os21
   rw [show Vs.setCells g 0 (c8 xh zh).toArray.toList=ws21 from hws21]
   refine hK.out _ _ trivial (fun h => ?_)
   clear h hK K hws21
   (try dsimp only [Act.put])
   refine wpAnyH_take (i:=13) (oi:=oN 14 (Op.nilCheck (oT 3)) 0 "climb.go:30" #[jD 1,jP 0,jP 1,jP 2,jP 3,jP 4,jP 5,jP 6,jP 7,jP 8,jP 9,jP 10,jP 11,jP 12]) (v := ?vs22) rfl (by kernel_rfl) (by kernel_rfl) (by kernel_rfl) (fun _ _ _ h=>h) (Or.inl ⟨by rfl,?hs22⟩) trivial ?rs22
   case hs22 =>
    intro w hSw
    go_simp
    try with_reducible rfl
   (try simp only [pS])
   refine wpAnyH_take (i:=14) (oi:=oN 15 (Op.fieldAddr 279 (oT 14) 1) 0 "climb.go:30" #[jD 13,jP 0,jP 1,jP 2,jP 3,jP 4,jP 5,jP 6,jP 7,jP 8,jP 9,jP 10,jP 11,jP 12]) (v := ?vs23) rfl (by kernel_rfl) (by kernel_rfl) (by kernel_rfl) (fun _ _ _ h=>h) (Or.inl ⟨by rfl,?hs23⟩) trivial ?rs23
   case hs23 =>
    intro w hSw
    go_simp
    try with_reducible rfl
   (try simp only [pS])
   refine wpAnyH_ready (rs:=[15]) (by kernel_rfl) (by simp) ?_
   refine AllReadyH.cons (o:=oS (Op.store 277 (oT 15) (oT 11)) "climb.go:30" #[jD 14,jD 9,jC 12,jP 0,jP 1,jP 2,jP 3,jP 4,jP 5,jP 6,jP 7,jP 8,jP 9,jP 10,jP 11,jP 12]) rfl (fun K hK => ?_) (AllReadyH.nil)
   rw [if_pos (by rfl)]
   refine wp_store_mid 277 _ _ rfl g 8 (c8 xl zl).toArray rfl rfl hq.there info8 (one8 _ _) ?_
   have Os24:=Out.setCells (b:=g) (o:=8) (n:=(c8 xl zl).length) ws21 (c8 xl zl) (Nat.le_refl _) (Nat.le_refl _)
   replace hq:=hq.stored (c8 xl zl) rfl
   replace hp:=hp.far g 8 (c8 xl zl) (by simp [c8,c4])
   obtain ⟨ws24,hws24⟩:∃ W,ws21.setCells g 8 (c8 xl zl)=W:=⟨_,rfl⟩
   rw [hws24] at hp
   rw [hws24] at hq
   rw [hws24] at Os24
   rw [show ws21.setCells g 8 (c8 xl zl).toArray.toList=ws24 from hws24]
   refine hK.out _ _ trivial (fun h => ?_)
   clear h hK K hws24
   (try dsimp only [Act.put])
   refine wpAnyH_done (by kernel_rfl) ?_ _
   refine NoPanic.normal ?_
   go_wp2
   exact bodyPost_end (results_none Tryz.results274 _ _ _) rfl ⟨rfl,((Out.of_below hdrew hgl).trans (Out.wide (by assumption) (by decide) (by simp [c8,c4]))).trans (Out.wide (by assumption) (by decide) (by simp [c8,c4])),hp,hq⟩
set_option maxRecDepth 20000 in
set_option maxHeartbeats 4000000 in
theorem rung_no (u xl zl xh zh p q r s g:Nat) (hst:∀ W,RW W g 0 (c8 xl zl)→RW W g 8 (c8 xh zh)→Calls Tryz.prog 275 #[.pointer (some ⟨g,0,none⟩),numV u] W fun e w'=>e = .returned (.tuple #[])∧Out g 0 16 W w'∧RW w' g 0 (c8 p q)∧RW w' g 8 (c8 r s))
 (w:World) (hp:RW w g 0 (c8 xl zl)) (hq:RW w g 8 (c8 xh zh)) (hu:RW w g 16 (c4 u)) :
 Calls Tryz.prog 257 #[.pointer (some ⟨g,0,none⟩),.bool false] w fun e w'=>e = .returned (.tuple #[])∧Out g 0 16 w w'∧RW w' g 0 (c8 p q)∧RW w' g 8 (c8 r s)∧RW w' g 16 (c4 u):=by
 have hgl:=hp.lt
 go_enter Tryz.func257,Tryz.ntmps257
 go_wp2
 have hdrew:Below w.heap.size w w.drew:=(Below.refl _ _).drew
 replace hp:=hp.still hdrew
 replace hq:=hq.still hdrew
 replace hu:=hu.still hdrew
 refine wp_region_noPanic ?_
 refine wp_region_held_drew (S:=fun _=>True) (by kernel_rfl) trivial (fun _ => ?_)
 generalize w.drew=Vq at *
 refine wpAnyH_take (i:=0) (oi:=oN 9 (Op.move (oT 0)) 270 "climb.go:61" #[]) (v := ?vq1) rfl (by kernel_rfl) (by kernel_rfl) (by kernel_rfl) (fun _ _ _ h=>h) (Or.inl ⟨by rfl,?hq1⟩) trivial ?rq1
 case hq1 =>
  intro w hSw
  go_simp
  try with_reducible rfl
 (try simp only [pS])
 refine wpAnyH_take (i:=1) (oi:=oN 10 (Op.nilCheck (oT 9)) 0 "climb.go:61" #[jD 0]) (v := ?vq2) rfl (by kernel_rfl) (by kernel_rfl) (by kernel_rfl) (fun _ _ _ h=>h) (Or.inl ⟨by rfl,?hq2⟩) trivial ?rq2
 case hq2 =>
  intro w hSw
  go_simp
  try with_reducible rfl
 (try simp only [pS])
 refine wpAnyH_take (i:=2) (oi:=oN 11 (Op.fieldAddr 281 (oT 10) 0) 0 "climb.go:61" #[jD 1]) (v := ?vq3) rfl (by kernel_rfl) (by kernel_rfl) (by kernel_rfl) (fun _ _ _ h=>h) (Or.inl ⟨by rfl,?hq3⟩) trivial ?rq3
 case hq3 =>
  intro w hSw
  go_simp
  try with_reducible rfl
 (try simp only [pS])
 refine wpAnyH_take (i:=3) (oi:=oN 12 (Op.move (oT 0)) 270 "climb.go:61" #[]) (v := ?vq4) rfl (by kernel_rfl) (by kernel_rfl) (by kernel_rfl) (fun _ _ _ h=>h) (Or.inl ⟨by rfl,?hq4⟩) trivial ?rq4
 case hq4 =>
  intro w hSw
  go_simp
  try with_reducible rfl
 (try simp only [pS])
 refine wpAnyH_take (i:=4) (oi:=oN 13 (Op.nilCheck (oT 12)) 0 "climb.go:61" #[jD 3]) (v := ?vq5) rfl (by kernel_rfl) (by kernel_rfl) (by kernel_rfl) (fun _ _ _ h=>h) (Or.inl ⟨by rfl,?hq5⟩) trivial ?rq5
 case hq5 =>
  intro w hSw
  go_simp
  try with_reducible rfl
 (try simp only [pS])
 refine wpAnyH_take (i:=5) (oi:=oN 14 (Op.fieldAddr 281 (oT 13) 1) 0 "climb.go:61" #[jD 4]) (v := ?vq6) rfl (by kernel_rfl) (by kernel_rfl) (by kernel_rfl) (fun _ _ _ h=>h) (Or.inl ⟨by rfl,?hq6⟩) trivial ?rq6
 case hq6 =>
  intro w hSw
  go_simp
  try with_reducible rfl
 (try simp only [pS])
 refine wpAnyH_ready (rs:=[6]) (by kernel_rfl) (by simp) ?_
 refine AllReadyH.cons (o:=oN 15 (Op.load 75 (oT 14)) 75 "climb.go:61" #[jD 5]) rfl (fun K hK => ?_) (AllReadyH.nil)
 rw [if_pos (by rfl)]
 refine wp_load_mid 75 _ rfl g 16 rfl (c4 u) _ hu.range Tryz.underlying75 rfl info4 ?_
 refine hK.out _ _ trivial (fun h => ?_)
 clear h hK K
 rw [show Value.agg (c4 u).toArray=numV u from rfl]
 (try simp only [pS])
 refine wpAnyH_ready (rs:=[7]) (by kernel_rfl) (by simp) ?_
 refine AllReadyH.cons (o:=oN 16 (cF1 275 #[oT 11,oT 15] #[279,75]) 0 "climb.go:61" #[jD 2,jD 6]) rfl (fun K hK => ?_) (AllReadyH.nil)
 go_simp
 (go_at_call 275;refine (hst _ hp hq).mono ?_;clear hst;rintro e wq8 ⟨rfl,hO,hp2,hq2⟩;(replace hu:=hu.outside hO (by simp)))
 (try go_simp)
 refine hK.out _ _ trivial (fun h => ?_)
 clear h hK K
 (try simp only [pS])
 refine wpAnyH_done (by kernel_rfl) ?_ _
 refine NoPanic.normal ?_
 go_wp2
 exact bodyPost_end (results_none Tryz.results257 _ _ _) rfl ⟨rfl,(Out.of_below hdrew hgl).trans hO,hp2,hq2,hu⟩
set_option maxRecDepth 20000 in
set_option maxHeartbeats 4000000 in
theorem rung_yes (u xl zl xh zh p q r s g:Nat) (hst:∀ W,RW W g 0 (c8 xh zh)→RW W g 8 (c8 xl zl)→Calls Tryz.prog 275 #[.pointer (some ⟨g,0,none⟩),numV u] W fun e w'=>e = .returned (.tuple #[])∧Out g 0 16 W w'∧RW w' g 0 (c8 p q)∧RW w' g 8 (c8 r s))
 (w:World) (hp:RW w g 0 (c8 xl zl)) (hq:RW w g 8 (c8 xh zh)) (hu:RW w g 16 (c4 u)) :
 Calls Tryz.prog 257 #[.pointer (some ⟨g,0,none⟩),.bool true] w fun e w'=>e = .returned (.tuple #[])∧Out g 0 16 w w'∧RW w' g 0 (c8 r s)∧RW w' g 8 (c8 p q)∧RW w' g 16 (c4 u):=by
 have hsw:=swap_any xl zl xh zh g w hp hq
 have hgl:=hp.lt
 clear hp hq
 go_enter Tryz.func257,Tryz.ntmps257
 go_wp2_with (go_at_call 274;refine hsw.mono ?_;clear hsw;rintro e w1 ⟨rfl,hO1,hp,hq⟩;(replace hu:=hu.outside hO1 (by simp));(replace hgl:=Nat.lt_of_lt_of_le hgl hO1.size))
 have hdrew:Below w1.heap.size w1 w1.drew:=(Below.refl _ _).drew
 replace hp:=hp.still hdrew
 replace hq:=hq.still hdrew
 replace hu:=hu.still hdrew
 refine wp_region_noPanic ?_
 refine wp_region_held_drew (S:=fun _=>True) (by kernel_rfl) trivial (fun _ => ?_)
 generalize w1.drew=Vt at *
 refine wpAnyH_take (i:=0) (oi:=oN 9 (Op.move (oT 0)) 270 "climb.go:61" #[]) (v := ?vt1) rfl (by kernel_rfl) (by kernel_rfl) (by kernel_rfl) (fun _ _ _ h=>h) (Or.inl ⟨by rfl,?ht1⟩) trivial ?rt1
 case ht1 =>
  intro w hSw
  go_simp
  try with_reducible rfl
 (try simp only [pS])
 refine wpAnyH_take (i:=1) (oi:=oN 10 (Op.nilCheck (oT 9)) 0 "climb.go:61" #[jD 0]) (v := ?vt2) rfl (by kernel_rfl) (by kernel_rfl) (by kernel_rfl) (fun _ _ _ h=>h) (Or.inl ⟨by rfl,?ht2⟩) trivial ?rt2
 case ht2 =>
  intro w hSw
  go_simp
  try with_reducible rfl
 (try simp only [pS])
 refine wpAnyH_take (i:=2) (oi:=oN 11 (Op.fieldAddr 281 (oT 10) 0) 0 "climb.go:61" #[jD 1]) (v := ?vt3) rfl (by kernel_rfl) (by kernel_rfl) (by kernel_rfl) (fun _ _ _ h=>h) (Or.inl ⟨by rfl,?ht3⟩) trivial ?rt3
 case ht3 =>
  intro w hSw
  go_simp
  try with_reducible rfl
 (try simp only [pS])
 refine wpAnyH_take (i:=3) (oi:=oN 12 (Op.move (oT 0)) 270 "climb.go:61" #[]) (v := ?vt4) rfl (by kernel_rfl) (by kernel_rfl) (by kernel_rfl) (fun _ _ _ h=>h) (Or.inl ⟨by rfl,?ht4⟩) trivial ?rt4
 case ht4 =>
  intro w hSw
  go_simp
  try with_reducible rfl
 (try simp only [pS])
 refine wpAnyH_take (i:=4) (oi:=oN 13 (Op.nilCheck (oT 12)) 0 "climb.go:61" #[jD 3]) (v := ?vt5) rfl (by kernel_rfl) (by kernel_rfl) (by kernel_rfl) (fun _ _ _ h=>h) (Or.inl ⟨by rfl,?ht5⟩) trivial ?rt5
 case ht5 =>
  intro w hSw
  go_simp
  try with_reducible rfl
 (try simp only [pS])
 refine wpAnyH_take (i:=5) (oi:=oN 14 (Op.fieldAddr 281 (oT 13) 1) 0 "climb.go:61" #[jD 4]) (v := ?vt6) rfl (by kernel_rfl) (by kernel_rfl) (by kernel_rfl) (fun _ _ _ h=>h) (Or.inl ⟨by rfl,?ht6⟩) trivial ?rt6
 case ht6 =>
  intro w hSw
  go_simp
  try with_reducible rfl
 (try simp only [pS])
 refine wpAnyH_ready (rs:=[6]) (by kernel_rfl) (by simp) ?_
 refine AllReadyH.cons (o:=oN 15 (Op.load 75 (oT 14)) 75 "climb.go:61" #[jD 5]) rfl (fun K hK => ?_) (AllReadyH.nil)
 rw [if_pos (by rfl)]
 refine wp_load_mid 75 _ rfl g 16 rfl (c4 u) _ hu.range Tryz.underlying75 rfl info4 ?_
 refine hK.out _ _ trivial (fun h => ?_)
 clear h hK K
 rw [show Value.agg (c4 u).toArray=numV u from rfl]
 (try simp only [pS])
 refine wpAnyH_ready (rs:=[7]) (by kernel_rfl) (by simp) ?_
 refine AllReadyH.cons (o:=oN 16 (cF1 275 #[oT 11,oT 15] #[279,75]) 0 "climb.go:61" #[jD 2,jD 6]) rfl (fun K hK => ?_) (AllReadyH.nil)
 go_simp
 (go_at_call 275;refine (hst _ hp hq).mono ?_;clear hst;rintro e wt8 ⟨rfl,hO,hp2,hq2⟩;(replace hu:=hu.outside hO (by simp)))
 (try go_simp)
 refine hK.out _ _ trivial (fun h => ?_)
 clear h hK K
 (try simp only [pS])
 refine wpAnyH_done (by kernel_rfl) ?_ _
 refine NoPanic.normal ?_
 have hsw2:=swap_any p q r s g wt8 hp2 hq2
 clear hp2 hq2
 go_wp2_with (go_at_call 274;refine hsw2.mono ?_;clear hsw2;rintro e w2 ⟨rfl,hO2,hp3,hq3⟩;(replace hu:=hu.outside hO2 (by simp)))
 exact bodyPost_end (results_none Tryz.results257 _ _ _) rfl ⟨rfl,((hO1.trans (Out.of_below hdrew hgl)).trans hO).trans hO2,hp3,hq3,hu⟩
set_option maxRecDepth 20000 in
set_option maxHeartbeats 4000000 in
theorem value_any (x z i n:Nat) (hI:∀ W,Calls Tryz.prog 96 #[numV z] W fun e w'=>e = .returned (numV i)∧Below W.heap.size W w') (hT:∀ W,Calls Tryz.prog 98 #[numV x,numV i] W fun e w'=>e = .returned (numV n)∧Below W.heap.size W w') (w:World) :
 Calls Tryz.prog 258 #[ratV x z] w fun e w'=>e = .returned (numV n)∧Below w.heap.size w w':=by
 obtain ⟨W0,hW0⟩:∃ W,W=w.alloc (.cells (c8 x z).toArray 277):=⟨_,rfl⟩
 obtain ⟨W,g,hWg,hg,hb,hr⟩:=fresh4 W0
 have hs:W0.heap.size=w.heap.size+1:=by rw [hW0];simp
 have hb0:Below w.heap.size w W0:=by rw [hW0];exact (Below.refl _ _).alloc (Nat.le_refl _) _
 have hx0:RW W0 w.heap.size 0 (c8 x z):=by rw [hW0];exact RW.fresh w _ _
 replace hx0:=hx0.still hb
 have hx:RW W w.heap.size 0 (c4 x):=hx0.left
 have hz:RW W w.heap.size 4 (c4 z):=hx0.right
 have hge:g=w.heap.size+1:=by omega
 have hbW:Below w.heap.size w W:=below_next hb0 hb
 have hgl:=hr.lt
 have hne:w.heap.size≠g:=by omega
 have HW:Hid (W=(w.alloc (.cells #[.int .u64 (lw x 0),.int .u64 (lw x 1),.int .u64 (lw x 2),.int .u64 (lw x 3),.int .u64 (lw z 0),.int .u64 (lw z 1),.int .u64 (lw z 2),.int .u64 (lw z 3)] 277)).alloc (.cells #[.int .u64 0,.int .u64 0,.int .u64 0,.int .u64 0] 75)):=Hid.mk' (by rw [←hWg,hW0];rfl)
 have Hg:Hid (g=w.heap.size+1):=Hid.mk' hge
 obtain ⟨g0,hg0⟩:∃ g0,g0=w.heap.size:=⟨_,rfl⟩
 have Hg0:Hid (g0=w.heap.size):=Hid.mk' hg0
 rw [←hg0] at hx hz hne
 have hgw:w.heap.size≤g:=by omega
 clear hW0 hWg hg hb hs hb0 hx0 hge hg0 W0
 rw [show ratV x z = .agg #[.int .u64 (lw x 0),.int .u64 (lw x 1),.int .u64 (lw x 2),.int .u64 (lw x 3),.int .u64 (lw z 0),.int .u64 (lw z 1),.int .u64 (lw z 2),.int .u64 (lw z 3)] from rfl]
 go_enter Tryz.func258,Tryz.ntmps258
 go_wp2
 rw [←HW.out,←Hg.out,←Hg0.out]
 clear HW Hg Hg0
 have hgl0:=hgl
 have hdrew:Below W.heap.size W W.drew:=(Below.refl _ _).drew
 replace hx:=hx.still hdrew
 replace hz:=hz.still hdrew
 replace hr:=hr.still hdrew
 refine wp_region_noPanic ?_
 replace hgl:=Nat.lt_of_lt_of_le hgl hdrew.size
 refine wp_region_held_drew (S:=fun w'=>Out g 0 4 W.drew w') (by kernel_rfl) (Out.refl _ _ _ _) (fun hS => ?_)
 generalize W.drew=Vv at *
 refine tk 0 (pA g0 0) hS (hy:=yR) (h := ?_)
 (try simp only [pS])
 refine tk 1 (numV x) hS (hy:=(ldO hx hne 75 3 Tryz.underlying75 info4)) (h := ?_)
 (try simp only [pS])
 refine tk 2 (pA g0 4) hS (hy:=yR) (h := ?_)
 (try simp only [pS])
 refine tk 3 (numV z) hS (hy:=(ldO hz hne 75 5 Tryz.underlying75 info4)) (h := ?_)
 (try simp only [pS])
 refine cl 4 (hI _) ?_
 (rintro e wv1 ⟨rfl,hbv1⟩)
 have hSv1:=hS.trans (Out.of_below hbv1 hgl)
 replace hgl:=Nat.lt_of_lt_of_le hgl hbv1.size
 replace hr:=hr.still hbv1
 refine ⟨_,rfl,hSv1,?_⟩
 clear hbv1
 (try simp only [pS])
 refine cl 5 (hT _) ?_
 (rintro e wv2 ⟨rfl,hbv2⟩)
 have hSv2:=hSv1.trans (Out.of_below hbv2 hgl)
 replace hgl:=Nat.lt_of_lt_of_le hgl hbv2.size
 replace hr:=hr.still hbv2
 refine ⟨_,rfl,hSv2,?_⟩
 clear hbv2
 (try simp only [pS])
 refine wpAnyH_ready (rs:=[6]) (by kernel_rfl) (by simp) ?_
 refine AllReadyH.cons (o:=oS (Op.store 75 (oT 2) (oT 8)) "climb.go:23" #[jD 5,jC 5,jP 0,jP 1,jP 2,jP 3,jP 4,jP 5]) rfl (fun K hK => ?_) (AllReadyH.nil)
 rw [if_pos (by rfl)]
 refine wp_store_mid 75 _ _ rfl g 0 (c4 n).toArray rfl rfl hr.there info4 (one4 _) ?_
 have hSv3:=hSv2.trans (Out.setCells wv2 (c4 n) (Nat.le_refl _) (Nat.le_refl _))
 replace hr:=hr.stored (c4 n) rfl
 obtain ⟨wv3,hwv3⟩:∃ W,wv2.setCells g 0 (c4 n)=W:=⟨_,rfl⟩
 rw [hwv3] at hr
 rw [hwv3] at hSv3
 rw [show wv2.setCells g 0 (c4 n).toArray.toList=wv3 from hwv3]
 refine hK.out _ _ hSv3 (fun h => ?_)
 clear h hK K hwv3
 (try dsimp only [Act.put])
 refine wpAnyH_done (by kernel_rfl) ?_ _
 refine NoPanic.normal ?_
 clear hI hT
 go_wp2
 exact bodyPost_ret (results_cell_mid Tryz.results258 _ _ g 0 (c4 n) _ rfl hr.range Tryz.underlying75 rfl info4) rfl ⟨rfl,hbW.trans (((Out.of_below hdrew hgl0).trans hSv3).below hgw hbW.size)⟩
end Go.Proofs.YtibdhadbflfdpaaGreatDoor
namespace Go.Proofs.YtibdhadbflfdpaaGreatDoor
open Go.RowKit
theorem c4_one:c4 1=[.int .u64 1,.int .u64 0,.int .u64 0,.int .u64 0]:=by kernel_rfl
set_option maxRecDepth 20000 in
set_option maxHeartbeats 4000000 in
theorem begin_any (u:Nat) (w:World) :
 Calls Tryz.prog 255 #[numV u] w fun e w'=>∃ g,e = .returned (.pointer (some ⟨g,0,none⟩))∧w.heap.size≤g∧Below w.heap.size w w'∧RW w' g 0 (c8 1 0)∧RW w' g 8 (c8 u 1)∧RW w' g 16 (c4 u):=by
 have hS:=fun W=>fsmall_pos 1 (by decide) W
 have e1:numV 1 = .agg #[.int .u64 1,.int .u64 0,.int .u64 0,.int .u64 0]:=by kernel_rfl
 rw [e1] at hS
 clear e1
 obtain ⟨W0,hW0⟩:∃ W,W=w.alloc (.cells #[.int .u64 (lw u 0),.int .u64 (lw u 1),.int .u64 (lw u 2),.int .u64 (lw u 3)] 75):=⟨_,rfl⟩
 have hb0:Below w.heap.size w W0:=by rw [hW0];exact (Below.refl _ _).alloc (Nat.le_refl _) _
 have f0:FourAt W0 w.heap.size (.int .u64 (lw u 0)) (.int .u64 (lw u 1)) (.int .u64 (lw u 2)) (.int .u64 (lw u 3)):=by rw [hW0];exact four_fresh _ _ _ _ _ _
 have hl0:w.heap.size<W0.heap.size:=by rw [hW0];simp
 have HW:=Hid.mk' hW0
 clear hW0
 rw [show numV u = .agg #[.int .u64 (lw u 0),.int .u64 (lw u 1),.int .u64 (lw u 2),.int .u64 (lw u 3)] from rfl]
 go_enter Tryz.func255,Tryz.ntmps255
 go_wp2_with (go_at_call 157;rw [←HW.out];refine (hS _).mono ?_;clear hS HW;rintro e w1 ⟨rfl,hb1⟩;(obtain ⟨c0,c1,c2,c3,f0,f1,f2,f3⟩:=f0.below hb1 hl0);(have hlt:=Nat.lt_of_lt_of_le hl0 hb1.size);(have hne:w.heap.size≠w1.heap.size:=by omega))
 go_ret
 have hr:=RW.fresh (w1.alloc (.cells #[.int .u64 1,.int .u64 0,.int .u64 0,.int .u64 0] 75)) (c8 1 0 ++ (c8 u 1 ++ c4 u)) 281
 have hs:(w1.alloc (.cells #[.int .u64 1,.int .u64 0,.int .u64 0,.int .u64 0] 75)).heap.size=w1.heap.size+1:=by simp
 have hb2:Below w1.heap.size w1 ((w1.alloc (.cells #[.int .u64 1,.int .u64 0,.int .u64 0,.int .u64 0] 75)).alloc (.cells (c8 1 0 ++ (c8 u 1 ++ c4 u)).toArray 281)):=((Below.refl _ _).alloc (Nat.le_refl _) _).alloc (by simp) _
 rw [hs] at hr
 have e:(c8 1 0 ++ (c8 u 1 ++ c4 u)).toArray=#[.int .u64 1,.int .u64 0,.int .u64 0,.int .u64 0,.int .u64 0,.int .u64 0,.int .u64 0,.int .u64 0,.int .u64 (lw u 0),.int .u64 (lw u 1),.int .u64 (lw u 2),.int .u64 (lw u 3),.int .u64 1,.int .u64 0,.int .u64 0,.int .u64 0,.int .u64 (lw u 0),.int .u64 (lw u 1),.int .u64 (lw u 2),.int .u64 (lw u 3)]:=by
  unfold c8;rw [c4_one,c4_zero];rfl
 have hl:RW _ _ 0 (c8 1 0):=hr.left
 have hm:RW _ _ 8 (c8 u 1 ++ c4 u):=hr.right
 have hm1:RW _ _ 8 (c8 u 1):=hm.left
 have hm2:RW _ _ 16 (c4 u):=hm.right
 rw [e] at hl hm1 hm2 hb2
 have h1:=hb1.size
 exact ⟨_,rfl,by omega,(hb0.trans (hb1.mono (Nat.le_of_lt hl0))).trans (hb2.mono (by omega)),hl,hm1,hm2⟩
theorem bitsDown_any (x:Option Addr) (n c:Nat) (w:World):Calls Tryz.prog 256 #[.slice x n c] w fun e w'=>e = .returned (.func (.func 273) #[] #[.pointer (some ⟨w.heap.size,0,none⟩)])∧w'=w.alloc (.cells #[.slice x n c] 22):=by
 go_enter Tryz.func256,Tryz.ntmps256
 go_wp2
 go_ret
 exact ⟨rfl,rfl⟩
end Go.Proofs.YtibdhadbflfdpaaGreatDoor
namespace Go.Proofs.YtibdhadbflfdpaaGreatDoor
open Go.RowKit Go.Shelf
attribute [local go_sem] Oper.semAt_some
def bitN (ks:Nat→Nat) (i:Nat):Bool:=ks (i / 8) / 2 ^ (i%8)%2 == 1
theorem bit_eq (ks:Nat→Nat) (hlt:∀ q,ks q<256) (i:Nat):(bits .and .u8 ((ks (i / 8):Int) / 2 ^ (i%8)) 1 == 1)=bitN ks i:=by
 have e:((ks (i / 8):Int) / 2 ^ (i%8))=((ks (i / 8) / 2 ^ (i%8):Nat):Int):=by simp
 have hb:ks (i / 8) / 2 ^ (i%8)<256:=Nat.lt_of_le_of_lt (Nat.div_le_self _ _) (hlt _)
 rw [e,show (1:Int)=((1:Nat):Int) from rfl,u8_and_nat _ 1 hb (by decide),Nat.and_one_is_mod]
 unfold bitN
 generalize ks (i / 8) / 2 ^ (i%8)=v
 rcases Nat.mod_two_eq_zero_or_one v with h | h <;> simp [h]
set_option maxRecDepth 100000 in
set_option maxHeartbeats 4000000 in
theorem iter_in (n:Nat) (l pb bb ob cap:Nat) (ks:Nat→Nat) (Inv:Nat→World→Prop)
 (hcell:∀ j W,Inv j W→W.cell? ⟨pb,0,none⟩=some (.slice (some ⟨bb,ob,none⟩) 32 cap))
 (hks:∀ j W,Inv j W→∀ q,q<32→W.cell? ⟨bb,ob+q,none⟩=some (.int .u8 (ks q)))
 (hlt:∀ q,ks q<256)
 (hY:∀ j W1,j<255→Inv j W1→YieldAt Fence.wide (n - 1) Tryz.prog l #[.bool (bitN ks (254 - j))] W1 fun e W'=>e = .returned (.bool true)∧Inv (j+1) W')
 (W:World) (h0:Inv 0 W) :
 CallsIn Fence.wide n Tryz.prog 273 #[.func (.yield l) #[] #[],.pointer (some ⟨pb,0,none⟩)] W fun e W'=>(∃ v,e = .returned v)∧Inv 255 W':=by
 refine callsIn_of_wp Tryz.func273 rfl trivial ?_ rfl
 simp only [Tryz.ntmps273,List.size_toArray,List.length_cons,List.length_nil,Nat.reduceAdd,Nat.reduceSub,Array.replicate_succ,Array.replicate_zero,List.push_toArray,List.append_toArray,List.nil_append,List.cons_append]
 gi_wp2
 gi_loopw [3] (fun i wr=>∃ j:Nat,j≤255∧i = .int .i64 (254 - (j:Int))∧Inv j wr) (fun i _=>256 - (255 - (intOf i+1)).toNat)
 case atStart=>exact ⟨0,Nat.zero_le _,by go_num,h0⟩
 case round =>
  obtain ⟨j,hj,rfl,hI⟩:=hrel
  by_cases hj2:j<255
  · have c0:=hcell j wr hI
    have hi8:(254 - (j:Int)).toNat=254 - j:=by omega
    have cc:=hks j wr hI ((254 - j) / 8) (by omega)
    have hge:¬(254 - (j:Int)<0):=by omega
    have hbit:(bits .and .u8 ((ks ((254 - j) / 8):Int) / 2 ^ ((254 - j)%8)) 1 == 1)=bitN ks (254 - j):=bit_eq ks hlt (254 - j)
    obtain ⟨fn,tmps,assign,body,hy,hR⟩:=hY j wr hj2 hI
    gi_wp2
    refine ⟨(fun h=>by cases h),hR.mono ?_⟩
    rintro e W' ⟨rfl,hI'⟩
    gi_wp2
    go_roundw
    case rel=>exact ⟨j+1,by omega,by go_num,hI'⟩
    case measure=>simp [intOf];omega
  · obtain rfl:j=255:=by omega
    gi_wp2
    refine bodyPost_end (results_none rfl _ _ _) rfl ?_
    exact ⟨⟨_,rfl⟩,hI⟩
end Go.Proofs.YtibdhadbflfdpaaGreatDoor
namespace Go.Proofs.YtibdhadbflfdpaaGreatDoor
open Go.RowKit
def fadd (a b:Nat):Nat:=(a+b)%pF
def fsub (a b:Nat):Nat:=(a+pF - b)%pF
def fmul (a b:Nat):Nat:=a*b%pF
def finv (a:Nat):Nat:=a ^ (pF - 2)%pF
theorem fadd_lt (a b:Nat):fadd a b<pF:=Nat.mod_lt _ (by decide)
theorem fsub_lt (a b:Nat):fsub a b<pF:=Nat.mod_lt _ (by decide)
theorem fmul_lt (a b:Nat):fmul a b<pF:=Nat.mod_lt _ (by decide)
theorem finv_lt (a:Nat):finv a<pF:=Nat.mod_lt _ (by decide)
structure L4 where
 xl:Nat
 zl:Nat
 xh:Nat
 zh:Nat
structure L4.Ok (s:L4):Prop where
 xl:s.xl<pF
 zl:s.zl<pF
 xh:s.xh<pF
 zh:s.zh<pF
def L4.flip (s:L4):L4:=⟨s.xh,s.zh,s.xl,s.zl⟩
def ee (s:L4):Nat:=fsub (fmul (fadd s.xl s.zl) (fadd s.xl s.zl)) (fmul (fsub s.xl s.zl) (fsub s.xl s.zl))
def stepL (u:Nat) (s:L4):L4 :=
 ⟨fmul (fmul (fadd s.xl s.zl) (fadd s.xl s.zl)) (fmul (fsub s.xl s.zl) (fsub s.xl s.zl)),
  fmul (ee s) (fadd (fmul (fadd s.xl s.zl) (fadd s.xl s.zl)) (fmul 121665 (ee s))),
  fmul (fadd (fmul (fsub s.xh s.zh) (fadd s.xl s.zl)) (fmul (fadd s.xh s.zh) (fsub s.xl s.zl))) (fadd (fmul (fsub s.xh s.zh) (fadd s.xl s.zl)) (fmul (fadd s.xh s.zh) (fsub s.xl s.zl))),
  fmul u (fmul (fsub (fmul (fsub s.xh s.zh) (fadd s.xl s.zl)) (fmul (fadd s.xh s.zh) (fsub s.xl s.zl))) (fsub (fmul (fsub s.xh s.zh) (fadd s.xl s.zl)) (fmul (fadd s.xh s.zh) (fsub s.xl s.zl))))⟩
theorem stepL_ok (u:Nat) (s:L4):(stepL u s).Ok:=⟨fmul_lt _ _,fmul_lt _ _,fmul_lt _ _,fmul_lt _ _⟩
def rungL (u:Nat) (b:Bool) (s:L4):L4:=if b then (stepL u s.flip).flip else stepL u s
theorem rungL_ok (u:Nat) (b:Bool) (s:L4):(rungL u b s).Ok:=by
 unfold rungL
 have h:=stepL_ok u s.flip
 split
 · exact ⟨h.xh,h.zh,h.xl,h.zl⟩
 · exact stepL_ok u s
def climbL (u:Nat) (ks:Nat→Nat):Nat→L4
 | 0=>⟨1,0,u,1⟩
 | j+1=>rungL u (bitN ks (254 - j)) (climbL u ks j)
theorem climbL_ok (u:Nat) (hu:u<pF) (ks:Nat→Nat):∀ j,(climbL u ks j).Ok
 | 0=>⟨(by decide:1<pF),(by decide:0<pF),hu,(by decide:1<pF)⟩
 | _+1=>rungL_ok _ _ _
def mulL (ks:Nat→Nat) (u:Nat):Nat:=fmul (climbL u ks 255).xl (finv (climbL u ks 255).zl)
theorem step_any (u g:Nat) (hu:u<pF) (s:L4) (hs:s.Ok) (w:World) (hp:RW w g 0 (c8 s.xl s.zl)) (hq:RW w g 8 (c8 s.xh s.zh)) :
 Calls Tryz.prog 275 #[.pointer (some ⟨g,0,none⟩),numV u] w fun e w'=>e = .returned (.tuple #[])∧Out g 0 16 w w'∧RW w' g 0 (c8 (stepL u s).xl (stepL u s).zl)∧RW w' g 8 (c8 (stepL u s).xh (stepL u s).zh) :=
 step_raw u s.xl s.zl s.xh s.zh (fadd s.xl s.zl) (fsub s.xl s.zl) (fadd s.xh s.zh) (fsub s.xh s.zh) _ _ _ _ _ _ _ _ _ _ _ 121665 _ _ _ g
  (fun W=>rsum_any s.xl s.zl _ (fun W=>plus_any _ _ hs.xl hs.zl W) W) (fun W=>rdiff_any s.xl s.zl _ (fun W=>minus_any _ _ hs.xl hs.zl W) W)
  (fun W=>rsum_any s.xh s.zh _ (fun W=>plus_any _ _ hs.xh hs.zh W) W) (fun W=>rdiff_any s.xh s.zh _ (fun W=>minus_any _ _ hs.xh hs.zh W) W)
  (fun W=>times_any _ _ (fsub_lt _ _) (fadd_lt _ _) W) (fun W=>times_any _ _ (fadd_lt _ _) (fsub_lt _ _) W)
  (fun W=>plus_any _ _ (fmul_lt _ _) (fmul_lt _ _) W) (fun W=>minus_any _ _ (fmul_lt _ _) (fmul_lt _ _) W)
  (fun W=>times_any _ _ (fadd_lt _ _) (fadd_lt _ _) W) (fun W=>times_any _ _ (fsub_lt _ _) (fsub_lt _ _) W)
  (fun W=>minus_any _ _ (fmul_lt _ _) (fmul_lt _ _) W)
  (fun W=>times_any _ _ (fadd_lt _ _) (fadd_lt _ _) W) (fun W=>times_any _ _ (fsub_lt _ _) (fsub_lt _ _) W)
  (fun W=>times_any _ _ hu (fmul_lt _ _) W) (fun W=>times_any _ _ (fmul_lt _ _) (fmul_lt _ _) W)
  (fun W=>fsmall_pos 121665 (by decide) W)
  (fun W=>times_any _ _ (by decide) (fsub_lt _ _) W) (fun W=>plus_any _ _ (fmul_lt _ _) (fmul_lt _ _) W)
  (fun W=>times_any _ _ (fsub_lt _ _) (fadd_lt _ _) W) w hp hq
theorem rung_any (u g:Nat) (hu:u<pF) (b:Bool) (s:L4) (hs:s.Ok) (w:World) (hp:RW w g 0 (c8 s.xl s.zl)) (hq:RW w g 8 (c8 s.xh s.zh)) (hc:RW w g 16 (c4 u)) :
 Calls Tryz.prog 257 #[.pointer (some ⟨g,0,none⟩),.bool b] w fun e w'=>e = .returned (.tuple #[])∧Out g 0 16 w w'∧RW w' g 0 (c8 (rungL u b s).xl (rungL u b s).zl)∧RW w' g 8 (c8 (rungL u b s).xh (rungL u b s).zh)∧RW w' g 16 (c4 u):=by
 cases b with
 | false=>exact rung_no u s.xl s.zl s.xh s.zh _ _ _ _ g (fun W h k=>step_any u g hu s hs W h k) w hp hq hc
 | true=>exact rung_yes u s.xl s.zl s.xh s.zh _ _ _ _ g (fun W h k=>step_any u g hu s.flip ⟨hs.xh,hs.zh,hs.xl,hs.zl⟩ W h k) w hp hq hc
end Go.Proofs.YtibdhadbflfdpaaGreatDoor
