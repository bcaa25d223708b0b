/- What the proof stands on: HRefWords, HPlain, HCert, HConsts. -/
import Derived.Test.YtddkbmnkbfciaaaGreatDoorHEngM
import Derived.Test.YtddkbmnkbfciaaaGreatDoorHStartM
import Derived.ArgAppend
import Derived.Deep.AppendLies
import Derived.Deep.RegionLawGrows
import Derived.Deep.Upon
namespace Go.Proofs.YtddkbmnkbfciaaaGreatDoor
open Go.RowKit
def wordR (bs:Nat→Nat) (o:Nat):Nat→Nat
 | 0=>0
 | k+1=>(wordR bs o k*256%2 ^ 64) ||| bs (o+k)
theorem step_lt (x b m:Nat) (hx:x<2 ^ m) (hb:b<256):(x*256%2 ^ 64 ||| b)<2 ^ (m+8):=by
 refine Nat.or_lt_two_pow (Nat.lt_of_le_of_lt (Nat.mod_le _ _) ?_) (Nat.lt_of_lt_of_le hb ?_)
 · rw [Nat.pow_add];exact Nat.mul_lt_mul_of_pos_right hx (by decide)
 · rw [Nat.pow_add];exact Nat.le_mul_of_pos_left _ (Nat.two_pow_pos m)
theorem wordR32_lt {bs:Nat→Nat} (hb:∀ j,bs j<256) (o:Nat):wordR bs o 4<2 ^ 32 :=
 step_lt _ _ 24 (step_lt _ _ 16 (step_lt _ _ 8 (step_lt _ _ 0 (by simp [wordR]) (hb _)) (hb _)) (hb _)) (hb _)
theorem Tryz.info210:(Tryz.prog.info? 210).map (fun i=>(i.zero,i.size,i.bytes))=some (some (.int .u64 0),1,8):=by kernel_rfl
theorem sch_succ (r:Ru) (X:Nat→Nat) (k:Nat):sch r X (k+1)=upd (sch r X k) (k+16) (nextW r (sch r X k) k):=rfl
set_option maxRecDepth 20000 in
set_option maxHeartbeats 2000000 in
theorem words32_any (g0 g1 g2 g3 bb ob cap:Nat) (bs:Nat→Nat) (hbs:∀ j,bs j<256) (w:World) (hL:Lists32 w g0 g1 g2 g3) (hcell:∀ j,j<64→w.cell? ⟨bb,ob+j,none⟩=some (.int .u8 (bs j))) :
 Calls Tryz.prog 232 #[(.agg #[.int .i64 32,.int .i64 64,.int .i64 64,.slice (some ⟨g0,0,none⟩) 3 3,.slice (some ⟨g1,0,none⟩) 3 3,.slice (some ⟨g2,0,none⟩) 3 3,.slice (some ⟨g3,0,none⟩) 3 3]),.slice (some ⟨bb,ob,none⟩) 64 cap] w fun e w'=>∃ v,e = .returned v∧w'.ownsRow w.heap.size 210 1 v 64 (ints .u64 64 (sch rn (fun i=>wordR bs (4*i) 4) (64 - 16)))∧Below w.heap.size w w':=by
 obtain ⟨i0,hi,hz0,hz1,hz2⟩:=info_parts Tryz.info210
 have hbb:bb<w.heap.size:=block_lt_of_cell (hcell 0 (by decide))
 go_enter Tryz.func232,Tryz.ntmps232
 go_wp2
 go_loopw [6,7] (fun v i wr=>∃ k:Nat,k≤16∧i = .int .i64 k∧wr.ownsRow (w.heap.size+1) 210 1 v k (ints .u64 k (fun i=>wordR bs (4*i) 4))∧Below (w.heap.size+1) (w.alloc (.cells #[.int .i64 32,.int .i64 64,.int .i64 64,.slice (some ⟨g0,0,none⟩) 3 3,.slice (some ⟨g1,0,none⟩) 3 3,.slice (some ⟨g2,0,none⟩) 3 3,.slice (some ⟨g3,0,none⟩) 3 3] 162)) wr) (fun _ i _=>16 - (intOf i).toNat)
 case atStart=>exact ⟨0,Nat.zero_le _,rfl,World.ownsRow_nil _ _ _ _,Below.refl _ _⟩
 case round =>
  obtain ⟨k,hk,rfl,hown,hbel⟩:=hrel
  by_cases hlt:k<16
  · go_wp2
    go_loop [8,9] (fun x j=>∃ m:Nat,m≤4∧j = .int .i64 m∧x = .int .u64 (wordR bs (4*k) m)) (fun _ j=>4 - (intOf j).toNat)
    case atStart=>exact ⟨0,Nat.zero_le _,rfl,rfl⟩
    case round =>
     obtain ⟨m,hm,rfl,rfl⟩:=hrel
     by_cases hlm:m<4
     · have hc:wr.cell? ⟨bb,ob+(4*k+m),none⟩=some (.int .u8 (bs (4*k+m))):=(hbel.cell (p:=⟨bb,ob+(4*k+m),none⟩) (Nat.lt_succ_of_lt hbb)).trans ((World.cell?_alloc_lt _ _ _ hbb).trans (hcell (4*k+m) (by omega)))
       go_wp2
       go_round
       case rel =>
        refine ⟨m+1,by omega,by go_num,?_⟩
        have e:=or8_64 (wordR bs (4*k) m) (bs (4*k+m)) (hbs _)
        simp only [IntKind.wrap_u64]
        rw [e]
        rfl
       case measure=>simp [intOf];omega
     · have hme:m=4:=by omega
       subst hme
       go_wp2_with (at_builtin;refine wpList_append_lies _ rfl (.tmp 35) (.tmp 37) 208 rfl (w.heap.size+1) 210 i0 (.int .u64 0) 1 8 Tryz.underlying208 hi hz0 hz1 hz2 rfl (by decide) _ _ _ rfl (hown.alloc _) ⟨wr.heap.size,0,none⟩ 1 1 [.int .u64 (wordR bs (4*k) 4)] rfl rfl (one_new _ _ _) (one_cell _ _) (by decide) (by unfold maxLen;omega) (by omega) (by have:=hbel.size;simp only [World.size_alloc] at this ⊢;omega) _ rfl ?_;intro g cap' w1 hown1 hgrow hat hgl)
       go_roundw
       case rel =>
        have hs:=hbel.size
        simp only [World.size_alloc] at hs
        have e:=ints_snoc .u64 k (fun i=>wordR bs (4*i) 4)
        exact ⟨k+1,by omega,by go_num,by rw [←e];exact hown1,below_grown (hbel.alloc hs _) hgrow (hown.alloc _) (Nat.le_refl _) (by simp only [World.size_alloc];omega)⟩
       case measure=>simp [intOf];omega
  · have hke:k=16:=by omega
    subst hke
    have hX:∀ j,(fun i=>wordR bs (4*i) 4) j<2 ^ 32:=fun j=>wordR32_lt hbs (4*j)
    obtain ⟨X,hXe⟩:∃ X:Nat→Nat,X=fun i=>wordR bs (4*i) 4:=⟨_,rfl⟩
    have HX:Hid (X=fun i=>wordR bs (4*i) 4):=hXe
    rw [←hXe] at hown hX
    clear hXe hcell hbb hbs
    go_wp2
    go_loopw [6,10] (fun v t w2=>∃ k:Nat,k≤64 - 16∧t = .int .i64 ((k:Int)+16)∧w2.ownsRow (w.heap.size+1) 210 1 v (k+16) (ints .u64 (k+16) (sch rn X k))∧Below (w.heap.size+1) (w.alloc (.cells #[.int .i64 32,.int .i64 64,.int .i64 64,.slice (some ⟨g0,0,none⟩) 3 3,.slice (some ⟨g1,0,none⟩) 3 3,.slice (some ⟨g2,0,none⟩) 3 3,.slice (some ⟨g3,0,none⟩) 3 3] 162)) w2) (fun _ t _=>64 - (intOf t).toNat)
    case atStart=>exact ⟨0,Nat.zero_le _,rfl,hown,hbel⟩
    case round =>
     clear hown hbel
     obtain ⟨k,hk,rfl,hown,hbel⟩:=hrel
     have hs1:=hbel.size
     simp only [World.size_alloc] at hs1
     have hbw:Below w.heap.size w wr:=((Below.refl _ _).alloc (Nat.le_refl _) _).trans (hbel.mono (by omega))
     have hZ:ZBox32 wr w.heap.size g0 g1 g2 g3:=by
      have hc:∀ j,wr.cell? ⟨w.heap.size,j,none⟩=(w.alloc (.cells #[.int .i64 32,.int .i64 64,.int .i64 64,.slice (some ⟨g0,0,none⟩) 3 3,.slice (some ⟨g1,0,none⟩) 3 3,.slice (some ⟨g2,0,none⟩) 3 3,.slice (some ⟨g3,0,none⟩) 3 3] 162)).cell? ⟨w.heap.size,j,none⟩:=fun j=>hbel.cell (p:=⟨w.heap.size,j,none⟩) (Nat.lt_succ_self _)
      have h:=zbox32 w g0 g1 g2 g3
      unfold ZBox32 at *
      simp only [hc]
      exact h
     by_cases hlt:k<64 - 16
     · obtain ⟨gg,cc,hv,hgb,hgl⟩:=hown.form (by omega)
       subst hv
       have hu:=fun j=>sch_lt (r:=rn) hX k j
       have rr:∀ j,j<k+16→wr.cell? ⟨gg,j,none⟩=some (.int .u64 (sch rn X k j)):=fun j hj=>by
        rw [hown.cellAt j (by omega),ints_at _ _ _ j hj]
       have r14:=rr (k+14) (by omega)
       have r9:=rr (k+9) (by omega)
       have r1:=rr (k+1) (by omega)
       have r0:=rr k (by omega)
       obtain ⟨a14,e14⟩:∃ a,a=sch rn X k (k+14):=⟨_,rfl⟩
       obtain ⟨a9,e9⟩:∃ a,a=sch rn X k (k+9):=⟨_,rfl⟩
       obtain ⟨a1,e1⟩:∃ a,a=sch rn X k (k+1):=⟨_,rfl⟩
       obtain ⟨a0,e0⟩:∃ a,a=sch rn X k k:=⟨_,rfl⟩
       have HN:Hid (nextW rn (sch rn X k) k=(lo3 32 a14 (17,19,10)+a9+lo3 32 a1 (7,18,3)+a0)%2 ^ 32):=(by rw [e14,e9,e1,e0];rfl:nextW rn (sch rn X k) k=(lo3 32 a14 (17,19,10)+a9+lo3 32 a1 (7,18,3)+a0)%2 ^ 32)
       have u14:a14<2 ^ 32:=by rw [e14];exact hu _
       have u1:a1<2 ^ 32:=by rw [e1];exact hu _
       rw [←e14] at r14
       rw [←e9] at r9
       rw [←e1] at r1
       rw [←e0] at r0
       clear rr e14 e9 e1 e0 hu
       obtain ⟨b1,f1⟩:∃ a,a=lo3 32 a14 (17,19,10):=⟨_,rfl⟩
       obtain ⟨b2,f2⟩:∃ a,a=lo3 32 a1 (7,18,3):=⟨_,rfl⟩
       have hS1:∀ w':World,Seen (w.heap.size+1) gg (k+16) wr w'→∀ b o,b<w.heap.size+1→w'.cell? ⟨b,o,none⟩=wr.cell? ⟨b,o,none⟩:=fun w' h=>h.1
       have hS2:∀ w':World,Seen (w.heap.size+1) gg (k+16) wr w'→∀ q,q<k+16→w'.cell? ⟨gg,q,none⟩=wr.cell? ⟨gg,q,none⟩:=fun w' h=>h.2
       have hlow1:∀ W':World,Below wr.heap.size wr W'→Calls Tryz.prog 260 #[(.agg #[.int .i64 32,.int .i64 64,.int .i64 64,.slice (some ⟨g0,0,none⟩) 3 3,.slice (some ⟨g1,0,none⟩) 3 3,.slice (some ⟨g2,0,none⟩) 3 3,.slice (some ⟨g3,0,none⟩) 3 3]),.int .u64 a14,.slice (some ⟨g1,0,none⟩) 3 3] W' fun e w'=>e = .returned (.int .u64 (b1:Int))∧Below W'.heap.size W' w':=fun W' h=>by
        have L:=hL.below (hbw.trans (h.mono (by omega)))
        rw [f1]
        exact low32_any g0 g1 g2 g3 g1 _ 17 19 10 u14 (by decide) (by decide) (by decide) W' L.b0 L.b1 L.b2
       have hlow2:∀ W':World,Below wr.heap.size wr W'→Calls Tryz.prog 260 #[(.agg #[.int .i64 32,.int .i64 64,.int .i64 64,.slice (some ⟨g0,0,none⟩) 3 3,.slice (some ⟨g1,0,none⟩) 3 3,.slice (some ⟨g2,0,none⟩) 3 3,.slice (some ⟨g3,0,none⟩) 3 3]),.int .u64 a1,.slice (some ⟨g0,0,none⟩) 3 3] W' fun e w'=>e = .returned (.int .u64 (b2:Int))∧Below W'.heap.size W' w':=fun W' h=>by
        have L:=hL.below (hbw.trans (h.mono (by omega)))
        rw [f2]
        exact low32_any g0 g1 g2 g3 g0 _ 7 18 3 u1 (by decide) (by decide) (by decide) W' L.a0 L.a1 L.a2
       obtain ⟨nx,hnx⟩:∃ a,a=nextW rn (sch rn X k) k:=⟨_,rfl⟩
       have HNX:Hid (nx=nextW rn (sch rn X k) k):=hnx
       have hcut:∀ W':World,Calls Tryz.prog 233 #[(.agg #[.int .i64 32,.int .i64 64,.int .i64 64,.slice (some ⟨g0,0,none⟩) 3 3,.slice (some ⟨g1,0,none⟩) 3 3,.slice (some ⟨g2,0,none⟩) 3 3,.slice (some ⟨g3,0,none⟩) 3 3]),.int .u64 (IntKind.u64.wrap (IntKind.u64.wrap (IntKind.u64.wrap ((b1:Int)+a9)+b2)+a0))] W' fun e w'=>e = .returned (.int .u64 (nx:Int))∧Below W'.heap.size W' w':=fun W'=>by
        have e1:=sum4_64 b1 a9 b2 a0
        simp only [IntKind.wrap_u64]
        rw [e1]
        have h:=cut32_any g0 g1 g2 g3 ((b1+a9+b2+a0)%2 ^ 64) (Nat.mod_lt _ (by decide)) W'
        rw [Nat.mod_mod_of_dvd _ (Nat.pow_dvd_pow 2 (by decide))] at h
        rw [hnx,HN.out,←f1,←f2]
        exact h
       clear hnx f1 f2 u14 u1 HN hL hX
       have hb0:Below wr.heap.size wr wr.drew:=(Below.refl _ _).drew
       have hki:(k:Int)<64 - 16:=by omega
       have k80:k<64:=by omega
       have x14:IntKind.i64.wrap ((k:Int)+16 - 2)=(k:Int)+14:=by simp only [IntKind.wrap_i64];omega
       have x9:IntKind.i64.wrap ((k:Int)+16 - 7)=(k:Int)+9:=by simp only [IntKind.wrap_i64];omega
       have x1:IntKind.i64.wrap ((k:Int)+16 - 15)=(k:Int)+1:=by simp only [IntKind.wrap_i64];omega
       have x0:IntKind.i64.wrap (k:Int)=(k:Int):=by simp only [IntKind.wrap_i64];omega
       have y14:((k:Int)+14).toNat=k+14:=by omega
       have y9:((k:Int)+9).toNat=k+9:=by omega
       have y1:((k:Int)+1).toNat=k+1:=by omega
       have l14:(0:Int)≤(k:Int)+14∧(k:Int)+14<(k:Int)+16:=by omega
       have l9:(0:Int)≤(k:Int)+9∧(k:Int)+9<(k:Int)+16:=by omega
       have l1:(0:Int)≤(k:Int)+1∧(k:Int)+1<(k:Int)+16:=by omega
       have l0:(0:Int)≤(k:Int)∧(k:Int)<(k:Int)+16:=by omega
       have n0:k<k+16:=by omega
       have hm1:k+16+1≤maxLen:=by unfold maxLen;omega
       have hm2:(k+16+1)*8≤140737488355328:=by omega
       have hm3:∀ W':World,Below wr.heap.size wr W'→∀ ob:Obj,w.heap.size+1≤(W'.alloc ob).heap.size:=fun W' h ob=>by have:=h.size;simp only [World.size_alloc];omega
       obtain ⟨z0,z1,z2,z3,z4,z5,z6⟩:=hZ
       go_wp2
       go_region_held3 (fun w'=>Seen (w.heap.size+1) gg (k+16) wr w') (first | assumption | exact Seen.of_below (by assumption) (by omega) hgl | exact Seen.of_below (Below.alloc (by assumption) (Below.size (by assumption)) _) (by omega) hgl) (first
        | (go_at_call_of 260 a14;refine (hlow1 _ (by assumption)).mono ?_;rintro e w' ⟨rfl,hb⟩;have hbn:=below_next (W:=wr) (by assumption) hb)
        | (go_at_call_of 260 a1;refine (hlow2 _ (by assumption)).mono ?_;rintro e w' ⟨rfl,hb⟩;have hbn:=below_next (W:=wr) (by assumption) hb)
        | (go_at_call 233;refine (hcut _).mono ?_;rintro e w' ⟨rfl,hb⟩;have hbn:=below_next (W:=wr) (by assumption) hb)
        | (refine step_append_keep rfl (.tmp 45) (.tmp 79) 208 rfl (w.heap.size+1) 210 i0 (.int .u64 0) 8 Tryz.underlying208 hi hz0 hz1 hz2 rfl gg cc (k+16) _ rfl ((own_below hown (by assumption)).alloc _) ⟨_,0,none⟩ 1 (.int .u64 nx) rfl (one_new _ _ _) rfl hm1 hm2 (hm3 _ hbn _) ?_;intro g' cap' w1 hown1 hgrow hq;have hseen:Seen (w.heap.size+1) gg (k+16) wr w1:=seen_append (hbn.alloc hbn.size _) hgrow hq hgb hs1 hgl))
       clear hS1 hS2 hlow1 hlow2 hcut hb0 x14 x9 x1 x0 y14 y9 y1 l14 l9 l1 l0 r14 r9 r1 r0 z0 z1 z2 z3 z4 z5 z6 hm1 hm2 hm3 hseen
       go_wp2
       go_roundw
       case rel =>
        have e0:=ints_congr .u64 (k+16) (sch rn X k) (sch rn X (k+1)) (fun j hj=>by rw [sch_succ];unfold upd;rw [if_neg (by omega)])
        have e1:=ints_snoc .u64 (k+16) (sch rn X (k+1))
        have e2:sch rn X (k+1) (k+16)=nx:=by rw [HNX.out,sch_succ];unfold upd;rw [if_pos rfl]
        rw [e2] at e1
        have hfin:w1.ownsRow (w.heap.size+1) 210 1 (.slice (some ⟨g',0,none⟩) (k+16+1) cap') (k+1+16) (ints .u64 (k+1+16) (sch rn X (k+1))):=by
         rw [show k+1+16=k+16+1 by omega,←e1,←e0];exact hown1
        have hbf:Below (w.heap.size+1) (w.alloc (.cells #[.int .i64 32,.int .i64 64,.int .i64 64,.slice (some ⟨g0,0,none⟩) 3 3,.slice (some ⟨g1,0,none⟩) 3 3,.slice (some ⟨g2,0,none⟩) 3 3,.slice (some ⟨g3,0,none⟩) 3 3] 162)) w1:=(hbel.trans ((hbn.alloc hbn.size _).mono hs1)).grown hgrow (by have:=hbn.size;simp only [World.size_alloc];omega) (fun q h=>by cases h;exact hgb)
        repeat apply Exists.intro
        refine ⟨?_,rfl⟩
        exact ⟨k+1,by omega,by go_num,hfin,hbf⟩
       case measure=>simp [intOf];omega
     · have hke:k=64 - 16:=by omega
       subst hke
       obtain ⟨z0,z1,z2,z3,z4,z5,z6⟩:=hZ
       go_wp2
       go_ret
       rw [←HX.out]
       exact ⟨_,rfl,own_base hown (by omega),hbw⟩
end Go.Proofs.YtddkbmnkbfciaaaGreatDoor
namespace Go.Proofs.YtddkbmnkbfciaaaGreatDoor
open Go.RowKit
theorem fill_congr {m sz:Nat} {bs cs:Nat→Nat}:∀ i,(∀ j,j<i→bs j=cs j)→fill m sz bs i=fill m sz cs i
 | 0,_=>rfl
 | i+1,h=>by unfold fill;rw [fill_congr i (fun j hj=>h j (by omega)),h i (by omega)]
theorem sch_congr {r:Ru} {X Y:Nat→Nat} (h:∀ j,j<16→X j=Y j):∀ k j,j<16+k→sch r X k j=sch r Y k j
 | 0,j,hj=>h j (by omega)
 | k+1,j,hj=>by
  unfold sch upd
  have e:nextW r (sch r X k) k=nextW r (sch r Y k) k:=by
   unfold nextW
   rw [sch_congr h k (k+14) (by omega),sch_congr h k (k+9) (by omega),sch_congr h k (k+1) (by omega),sch_congr h k k (by omega)]
  rw [e]
  by_cases e2:j=k+16
  · rw [if_pos e2,if_pos e2]
  · rw [if_neg e2,if_neg e2];exact sch_congr h k j (by omega)
theorem roundsS_congr {r:Ru} {K L X Y:Nat→Nat} {s:St}:∀ n,(∀ j,j<n→X j=Y j)→(∀ j,j<n→K j=L j)→roundsS r K X s n=roundsS r L Y s n
 | 0,_,_=>rfl
 | n+1,h,g=>by unfold roundsS;rw [roundsS_congr n (fun j hj=>h j (by omega)) (fun j hj=>g j (by omega)),h n (by omega),g n (by omega)]
theorem blockS_congr {r:Ru} {K:Nat→Nat} {bs cs:Nat→Nat} {s:St} (h:∀ j,j<2*r.m→bs j=cs j):blockS r K bs s=blockS r K cs s:=by
 unfold blockS;rw [fill_congr _ h]
theorem loopS_congr {r:Ru} {K:Nat→Nat} {s:St} {bs cs:Nat→Nat}:∀ i,(∀ j,j<i*(2*r.m)→bs j=cs j)→loopS r K s bs i=loopS r K s cs i
 | 0,_=>rfl
 | i+1,h=>by
  unfold loopS
  have hs:(i+1)*(2*r.m)=i*(2*r.m)+2*r.m:=Nat.succ_mul i (2*r.m)
  rw [loopS_congr i (fun j hj=>h j (by omega))]
  exact blockS_congr fun j hj=>h _ (by omega)
theorem loopS_add {r:Ru} {K:Nat→Nat} {s:St} {bs:Nat→Nat} (i:Nat):∀ k,loopS r K s bs (i+k)=loopS r K (loopS r K s bs i) (fun j=>bs (i*(2*r.m)+j)) k
 | 0=>rfl
 | k+1=>by
  show blockS r K (fun j=>bs ((i+k)*(2*r.m)+j)) (loopS r K s bs (i+k))=blockS r K (fun j=>bs (i*(2*r.m)+(k*(2*r.m)+j))) _
  rw [loopS_add i k]
  exact blockS_congr fun j _=>by rw [Nat.add_mul,Nat.add_assoc]
theorem divmod {x a b t:Nat} (h:x=a*b+t) (ht:t<b):x / b=a∧x%b=t:=by
 subst h
 have hb:0<b:=by omega
 exact ⟨by rw [Nat.add_comm,Nat.add_mul_div_right _ _ hb,Nat.div_eq_of_lt ht,Nat.zero_add],by rw [Nat.add_comm,Nat.add_mul_mod_self_right,Nat.mod_eq_of_lt ht]⟩
structure Holds (r:Ru) (K:Nat→Nat) (s0:St) (n:Nat) (bs:Nat→Nat) (s:St) (R:Nat→Nat):Prop where
 st:s=loopS r K s0 bs (n / (2*r.m))
 rest:∀ j,j<n%(2*r.m)→R j=bs (n / (2*r.m)*(2*r.m)+j)
theorem Holds.none (r:Ru) (K:Nat→Nat) (s0:St) (bs R:Nat→Nat):Holds r K s0 0 bs s0 R:=⟨by rw [Nat.zero_div];rfl,fun j h=>by rw [Nat.zero_mod] at h;omega⟩
theorem Holds.congr {r:Ru} {K:Nat→Nat} {s0:St} {n:Nat} {bs cs:Nat→Nat} {s:St} {R:Nat→Nat} (h:Holds r K s0 n bs s R) (e:∀ j,j<n→bs j=cs j):Holds r K s0 n cs s R:=by
 have h1:=Nat.div_add_mod n (2*r.m)
 rw [Nat.mul_comm] at h1
 exact ⟨h.st.trans (loopS_congr _ fun j hj=>e j (by omega)),fun j hj=>(h.rest j hj).trans (e _ (by omega))⟩
theorem Holds.write {r:Ru} {K:Nat→Nat} {s0:St} {n:Nat} {bs:Nat→Nat} {s:St} {R:Nat→Nat} (hm:0<r.m) (h:Holds r K s0 n bs s R) (m:Nat) (b2:Nat→Nat) :
 Holds r K s0 (n+m) (cat n bs b2) (writeE r K s R n m b2).1 (writeE r K s R n m b2).2:=by
 obtain ⟨hst,hrest⟩:=h
 obtain ⟨B,hB⟩:∃ B,B=2*r.m:=⟨_,rfl⟩
 have hB0:0<B:=by omega
 have hn:=Nat.div_add_mod n B
 have ht:=Nat.mod_lt n hB0
 rw [←hB] at hst hrest
 obtain ⟨a,ha⟩:∃ a,a=n / B:=⟨_,rfl⟩
 obtain ⟨t,htt⟩:∃ t,t=n%B:=⟨_,rfl⟩
 rw [←ha] at hst hrest hn
 rw [←htt] at hrest hn ht
 rw [Nat.mul_comm] at hn
 have hpre:loopS r K s0 (cat n bs b2) a=s:=by
  rw [hst]
  refine loopS_congr _ fun j hj => ?_
  rw [←hB] at hj
  show (if j<n then bs j else _)=_
  rw [if_pos (by omega)]
 -- what tailE makes,where a whole block's end is reached at place p (a multiple of B) of all bytes
 have tail:∀ (p c m':Nat) (s':St) (R':Nat→Nat) (b':Nat→Nat),p=c*B→s'=loopS r K s0 (cat n bs b2) c→(∀ j,cat n bs b2 (p+j)=b' j)→p+m'=n+m →
  Holds r K s0 (n+m) (cat n bs b2) (tailE r K s' R' m' b').1 (tailE r K s' R' m' b').2:=by
  intro p c m' s' R' b' hp hs' hb' hpm
  have hm':=Nat.div_add_mod m' B
  have hu:=Nat.mod_lt m' hB0
  rw [Nat.mul_comm] at hm'
  obtain ⟨e1,e2⟩:=divmod (x:=n+m) (a:=c+m' / B) (b:=B) (t:=m'%B) (by rw [Nat.add_mul];omega) hu
  refine ⟨?_,?_⟩
  · rw [←hB,e1,loopS_add,←hB,←hp,←hs']
    show loopS r K s' b' (m' / (2*r.m))=_
    rw [←hB]
    exact loopS_congr _ fun j _=>(hb' j).symm
  · intro j hj
    rw [←hB,e2] at hj
    rw [←hB,e1]
    show over R' 0 (m'%(2*r.m)) (fun j=>b' (m' / (2*r.m)*(2*r.m)+j)) j=_
    rw [←hB]
    unfold over
    rw [if_pos ⟨Nat.zero_le _,by omega⟩,Nat.sub_zero]
    show b' (m' / B*B+j)=_
    rw [←hb',Nat.add_mul,hp,Nat.add_assoc]
 unfold writeE
 rw [←hB,←htt]
 by_cases h0:t=0
 · rw [if_pos h0]
   refine tail n a m s R b2 (by omega) hpre.symm (fun j => ?_) rfl
   unfold cat
   rw [if_neg (by omega),show n+j - n=j by omega]
 · rw [if_neg h0]
   by_cases h1:t+m<B
   · rw [if_pos h1]
     obtain ⟨e1,e2⟩:=divmod (x:=n+m) (a:=a) (b:=B) (t:=t+m) (by omega) h1
     refine ⟨?_,?_⟩
     · rw [←hB,e1];exact hpre.symm
     · intro j hj
       rw [←hB,e2] at hj
       rw [←hB,e1]
       show over R t m b2 j=_
       unfold over cat
       by_cases h2:j<t
       · rw [if_neg (by omega),if_pos (by omega)];exact hrest j h2
       · rw [if_pos (by omega),if_neg (by omega)];congr 1;omega
   · rw [if_neg h1]
     refine tail (n+(B - t)) (a+1) (m - (B - t)) _ _ _ (by rw [Nat.succ_mul];omega) ?_ (fun j => ?_) (by omega)
     · show _=blockS r K (fun j=>cat n bs b2 (a*(2*r.m)+j)) (loopS r K s0 (cat n bs b2) a)
       rw [hpre]
       refine blockS_congr fun j hj => ?_
       rw [←hB] at hj ⊢
       unfold over cat
       by_cases h2:j<t
       · rw [if_neg (by omega),if_pos (by omega)];exact hrest j h2
       · rw [if_pos (by omega),if_neg (by omega)];congr 1;omega
     · unfold cat
       rw [if_neg (by omega)];congr 1;omega
def specS (r:Ru) (K q:Nat→Nat) (n:Nat) (bs:Nat→Nat):St:=loopS r K (firstS r q) (cat n bs (padF r n)) ((n+padN r n) / (2*r.m))
theorem Holds.end {r:Ru} {K q:Nat→Nat} {n:Nat} {bs:Nat→Nat} {s:St} {R:Nat→Nat} (hm:0<r.m) (h:Holds r K (firstS r q) n bs s R):endS r K s R n=specS r K q n bs:=(h.write hm (padN r n) (padF r n)).st
theorem hashS_spec {r:Ru} (K q:Nat→Nat) (n:Nat) (bs:Nat→Nat) (hm:0<r.m):hashS r K q n bs=specS r K q n bs:=by
 have h:=(Holds.none r K (firstS r q) bs (fun _=>0)).write hm n bs
 rw [Nat.zero_add] at h
 exact Holds.end hm (h.congr fun j _=>by unfold cat;rw [if_neg (by omega),Nat.sub_zero])
def wordM (m:Nat) (bs:Nat→Nat) (o:Nat):Nat→Nat
 | 0=>0
 | k+1=>(wordM m bs o k*256%2 ^ m) ||| bs (o+k)
theorem fill_word (m sz:Nat) (hs:0<sz) (bs:Nat→Nat):∀ n i,(n≤sz*i→fill m sz bs n i=0)∧(∀ k,k≤sz→n=sz*i+k→fill m sz bs n i=wordM m bs (sz*i) k)∧(sz*(i+1)≤n→fill m sz bs n i=wordM m bs (sz*i) sz)
 | 0,i=>⟨fun _=>rfl,fun k hk e=>by
  have:k=0:=by omega
  subst this;rfl,fun h=>by rw [Nat.mul_succ] at h;omega⟩
 | n+1,i=>by
  obtain ⟨h1,h2,h3⟩:=fill_word m sz hs bs n i
  have hne:∀ a t,n=a*sz+t→t<sz→fill m sz bs (n+1) i=if i=a then (fill m sz bs n i*256%2 ^ m) ||| bs n else fill m sz bs n i:=fun a t e ht=>by
   obtain ⟨d1,_⟩:=divmod e ht
   show upd (fill m sz bs n) (n / sz) _ i=_
   unfold upd
   rw [d1]
   by_cases e2:i=a
   · rw [if_pos e2,if_pos e2,e2]
   · rw [if_neg e2,if_neg e2]
  have hdm:=Nat.div_add_mod n sz
  have hml:=Nat.mod_lt n hs
  rw [Nat.mul_comm] at hdm
  have hn:=hne (n / sz) (n%sz) hdm.symm hml
  have key:∀ k,k≤sz→n+1=sz*i+k→fill m sz bs (n+1) i=wordM m bs (sz*i) k:=fun k hk e=>by
   match k,hk,e with
   | 0,_,e =>
    have hi:i≠n / sz:=fun hi=>by
     rw [←hi,Nat.mul_comm] at hdm
     omega
    rw [hn,if_neg hi]
    exact h1 (by omega)
   | k+1,hk,e =>
    have e':n=i*sz+k:=by rw [Nat.mul_comm i sz];omega
    rw [hne i k e' (by omega),if_pos rfl,h2 k (by omega) (by omega)]
    show _=(wordM m bs (sz*i) k*256%2 ^ m) ||| bs (sz*i+k)
    rw [show n=sz*i+k by omega]
  refine ⟨fun h => ?_,key,fun h => ?_⟩
  · have hi:i≠n / sz:=fun hi=>by
     rw [←hi,Nat.mul_comm] at hdm
     omega
    rw [hn,if_neg hi]
    exact h1 (by omega)
  · rw [Nat.mul_succ] at h
    by_cases e:n+1=sz*i+sz
    · exact key sz (Nat.le_refl _) e
    · have hi:i≠n / sz:=fun hi=>by
       rw [←hi,Nat.mul_comm] at hdm
       omega
      rw [hn,if_neg hi]
      exact h3 (by rw [Nat.mul_succ];omega)
theorem or_small {x b m:Nat} (hx:x<2 ^ m) (hb:b<256) (hm:m+8≤32):(x*256%2 ^ 32 ||| b)=(x*256%2 ^ 64 ||| b)∧(x*256%2 ^ 32 ||| b)<2 ^ (m+8):=by
 have h1:x*256<2 ^ (m+8):=by rw [Nat.pow_add];exact Nat.mul_lt_mul_of_pos_right hx (by decide)
 have h2:2 ^ (m+8)≤2 ^ 32:=Nat.pow_le_pow_right (by decide) hm
 have e1:x*256%2 ^ 32=x*256:=Nat.mod_eq_of_lt (by omega)
 have h3:(2:Nat) ^ 32≤2 ^ 64:=by decide
 have e2:x*256%2 ^ 64=x*256:=Nat.mod_eq_of_lt (by omega)
 refine ⟨by rw [e1,e2],?_⟩
 rw [e1]
 exact Nat.or_lt_two_pow h1 (Nat.lt_of_lt_of_le hb (by rw [Nat.pow_add];exact Nat.le_mul_of_pos_left _ (Nat.two_pow_pos m)))
theorem wordM32 (bs:Nat→Nat) (hb:∀ j,bs j<256) (o:Nat):wordM 32 bs o 4=wordR bs o 4:=by
 have h0:wordM 32 bs o 0=wordR bs o 0:=rfl
 have l0:wordM 32 bs o 0<2 ^ 0:=Nat.zero_lt_one
 obtain ⟨e1,l1⟩:=or_small l0 (hb (o+0)) (by decide)
 obtain ⟨e2,l2⟩:=or_small (x:=wordM 32 bs o 1) l1 (hb (o+1)) (by decide)
 obtain ⟨e3,l3⟩:=or_small (x:=wordM 32 bs o 2) l2 (hb (o+2)) (by decide)
 obtain ⟨e4,l4⟩:=or_small (x:=wordM 32 bs o 3) l3 (hb (o+3)) (by decide)
 have w1:wordM 32 bs o 1=wordR bs o 1:=e1
 have w2:wordM 32 bs o 2=wordR bs o 2:=e2.trans (by rw [w1];rfl)
 have w3:wordM 32 bs o 3=wordR bs o 3:=e3.trans (by rw [w2];rfl)
 exact e4.trans (by rw [w3];rfl)
theorem blockR32_eq (K:Nat→Nat) (bs:Nat→Nat) (_hb:∀ j,bs j<256) (s:St):addS rn s (roundsS rn K (sch rn (fun i=>wordR bs (4*i) 4) (64 - 16)) s 64)=blockS rn K bs s:=by
 have e:roundsS rn K (sch rn (fun i=>wordR bs (4*i) 4) (64 - 16)) s 64=roundsS rn K (sch rn (fill 32 4 bs 64) (64 - 16)) s 64 :=
  roundsS_congr _ (fun j hj=>sch_congr (fun i hi=>by
   rw [((fill_word 32 4 (by decide) bs 64 i).2.2 (by omega))]
   exact (wordM32 bs _hb _).symm) _ j (by omega)) fun _ _=>rfl
 rw [e]
 rfl
end Go.Proofs.YtddkbmnkbfciaaaGreatDoor
namespace Go.Proofs.YtddkbmnkbfciaaaGreatDoor
open Go
def cubesL:List Nat:=[4794697086780616226,8158064640168781261,13096744586834688815,16840607885511220156,4131703408338449720,6480981068601479193,10538285296894168987,12329834152419229976,15566598209576043074,1334009975649890238,2608012711638119052,6128411473006802146,8268148722764581231,9286055187155687089,11230858885718282805,13951009754708518548,16472876342353939154,17275323862435702243,1135362057144423861,2597628984639134821,3308224258029322869,5365058923640841347,6679025012923562964,8573033837759648693,10970295158949994411,12119686244451234320,12683024718118986047,13788192230050041572,14330467153632333762,15395433587784984357,489312712824947311,1452737877330783856,2861767655752347644,3322285676063803686,5560940570517711597,5996557281743188959,7280758554555802590,8532644243296465576,9350256976987008742,10552545826968843579,11727347734174303076,12113106623233404929,14000437183269869457,14369950271660146224,15101387698204529176,15463397548674623760,17586052441742319658,1182934255886127544,1847814050463011016,2177327727835720531,2830643537854262169,3796741975233480872,4115178125766777443,5681478168544905931,6601373596472566643,7507060721942968483,8399075790359081724,8693463985226723168,9568029438360202098,10144078919501101548,10430055236837252648,11840083180663258601,13761210420658862357,14299343276471374635,14566680578165727644,15097957966210449927,16922976911328602910,17689382322260857208,500013540394364858,748580250866718886,1242879168328830382,1977374033974150939,2944078676154940804,3659926193048069267,4368137639120453308,4836135668995329356,5532061633213252278,6448918945643986474,6902733635092675308,7801388544844847127]
def squaresL:List Nat:=[7640891576956012808,13503953896175478587,4354685564936845355,11912009170470909681,5840696475078001361,11170449401992604703,2270897969802886507,6620516959819538809]
def cubeK (j:Nat):Nat:=cubesL.getD j 0
def squareK (j:Nat):Nat:=squaresL.getD j 0
end Go.Proofs.YtddkbmnkbfciaaaGreatDoor
namespace Go.Proofs.YtddkbmnkbfciaaaGreatDoor
open Go.RowKit
theorem cubeK_lt:∀ j,cubeK j<18446744073709551616:=fun j=>by
 unfold cubeK
 rw [List.getD_eq_getElem?_getD]
 cases h:cubesL[j]? with
 | none=>decide
 | some x =>
  have hm:x∈cubesL:=List.mem_of_getElem? h
  exact of_decide_eq_true (List.all_eq_true.1 (show cubesL.all (fun x=>decide (x<18446744073709551616))=true by kernel_rfl) x hm)
theorem squareK_lt:∀ j,squareK j<18446744073709551616:=fun j=>by
 unfold squareK
 rw [List.getD_eq_getElem?_getD]
 cases h:squaresL[j]? with
 | none=>decide
 | some x =>
  have hm:x∈squaresL:=List.mem_of_getElem? h
  exact of_decide_eq_true (List.all_eq_true.1 (show squaresL.all (fun x=>decide (x<18446744073709551616))=true by kernel_rfl) x hm)
end Go.Proofs.YtddkbmnkbfciaaaGreatDoor
