/- What sum, Sum256 and Sum512 of the reference do in the model, of any bytes in memory. -/
import Derived.Test.YtddkbmnkbfciaaaGreatDoorHRefBlockM
namespace Go.Proofs.YtddkbmnkbfciaaaGreatDoor
open Go.RowKit
set_option maxRecDepth 20000 in
set_option maxHeartbeats 4000000 in
theorem sumR32_any (g0 g1 g2 g3:Nat) (v:Value) (n:Nat) (bs:Nat→Nat) (hbs:∀ j,bs j<256) (w:World) (hL:Lists32 w g0 g1 g2 g3) (hv:BytesIn w v n bs) (hn:n<140737488355000) :
 Calls Tryz.prog 138 #[(.agg #[.int .i64 32,.int .i64 64,.int .i64 64,.slice (some ⟨g0,0,none⟩) 3 3,.slice (some ⟨g1,0,none⟩) 3 3,.slice (some ⟨g2,0,none⟩) 3 3,.slice (some ⟨g3,0,none⟩) 3 3]),v] w fun e w'=>∃ v',e = .returned v'∧Own w.heap.size w' v' 32 (outB 32 (specS rn cubeK squareK n bs))∧Below w.heap.size w w':=by
 have hpad:=fun W' (h:Below w.heap.size w W')=>padded32_any g0 g1 g2 g3 v n bs W' (hv.keep h) hn
 have hzb:=zbox32 w g0 g1 g2 g3
 obtain ⟨F,hF⟩:∃ F,F=cat n bs (padF rn n):=⟨_,rfl⟩
 have hFl:∀ j,F j<256:=by rw [hF];exact cat_lt hbs (padF_lt _ _)
 obtain ⟨T,hT,hT0⟩:=padN32_mod n
 have hTb:T*64<140737488355328:=by have:=padN32_le n;omega
 have HS:Hid (specS rn cubeK squareK n bs=loopS rn cubeK (firstS rn squareK) F T):=by
  show specS rn cubeK squareK n bs=_
  unfold specS
  rw [←hF,hT,show T*64 / (2*Ru.m rn)=T from Nat.mul_div_cancel T (by decide)]
 rw [←hF,hT] at hpad
 clear hF hv
 go_enter Tryz.func138,Tryz.ntmps138
 go_wp2_with (first
  | (go_at_call 193;refine (constants_any _).mono ?_;rintro e w1 ⟨gk,rfl,hgk,hrk,hb1⟩;simp only [World.size_alloc] at hgk hb1)
  | (go_at_call 194;refine (first_any _).mono ?_;rintro e w2 ⟨gq,rfl,hgq,hrq,hb2⟩))
 have hs1:=hb1.size
 have hs2:=hb2.size
 simp only [World.size_alloc] at hs1
 have hZ2:ZBox32 w2 w.heap.size g0 g1 g2 g3:=by
  have hc:∀ j,w2.cell? ⟨w.heap.size,j,none⟩=(w.alloc (.cells #[.int .i64 32,.int .i64 64,.int .i64 64,.slice (some ⟨g0,0,none⟩) 3 3,.slice (some ⟨g1,0,none⟩) 3 3,.slice (some ⟨g2,0,none⟩) 3 3,.slice (some ⟨g3,0,none⟩) 3 3] 162)).cell? ⟨w.heap.size,j,none⟩:=fun j=>(hb2.cell (p:=⟨w.heap.size,j,none⟩) (by show w.heap.size<_;omega)).trans (hb1.cell (p:=⟨w.heap.size,j,none⟩) (Nat.lt_succ_self _))
  unfold ZBox32 at *
  simp only [hc]
  exact hzb
 have hgk1:gk<w1.heap.size:=block_lt_of_cell (hrk 0 (by decide)).1
 have hgq2:gq<w2.heap.size:=block_lt_of_cell (hrq 0 (by decide)).1
 have hrk2:RowAt .u64 w2 gk 0 80 cubeK:=hrk.below hb2 hgk1
 have hw2:Below w.heap.size w w2:=((Below.refl _ _).alloc (Nat.le_refl _) _).trans ((hb1.mono (by omega)).trans (hb2.mono (by omega)))
 have hL2:=hL.below hw2
 have hzl:w.heap.size<w2.heap.size:=by omega
 have hgk2:gk<w2.heap.size:=by omega
 clear hrk hb1 hb2 hs1 hs2 hzb hgk1 hgk hgq hL
 obtain ⟨s0,hs0⟩:∃ s0,s0=firstS rn squareK:=⟨_,rfl⟩
 have hsl:s0.lt (2 ^ 32):=by rw [hs0];exact firstS_lt rn squareK (by decide) squareK_lt
 have hsq:∀ k,k<8→s0.at k=squareK k / 2 ^ (64 - 32):=fun k hk=>by
  rw [hs0]
  match k,hk with
  | 0,_=>rfl
  | 1,_=>rfl
  | 2,_=>rfl
  | 3,_=>rfl
  | 4,_=>rfl
  | 5,_=>rfl
  | 6,_=>rfl
  | 7,_=>rfl
 rw [←hs0] at HS
 clear hs0
 go_loopw [7,8] (fun v i wr=>∃ k:Nat,k≤8∧i = .int .i64 k∧wr.ownsRow w2.heap.size 210 1 v k (ints .u64 k s0.at)∧Below w2.heap.size w2 wr) (fun _ i _=>8 - (intOf i).toNat)
 case atStart=>exact ⟨0,Nat.zero_le _,rfl,World.ownsRow_nil _ _ _ _,Below.refl _ _⟩
 case round =>
  obtain ⟨k,hk,rfl,hown,hbel⟩:=hrel
  have hsr:=hbel.size
  by_cases hlt:k<8
  · have hZ:=hZ2.below hbel
    obtain ⟨z0,z1,z2,z3,z4,z5,z6⟩:=hZ
    have rq:wr.cell? ⟨gq,k,none⟩=some (.int .u64 (squareK k)):=by
     have:=(hrq k hlt).1
     rw [Nat.zero_add] at this
     exact (hbel.cell (p:=⟨gq,k,none⟩) hgq2).trans this
    obtain ⟨qk,hqk⟩:∃ qk,qk=squareK k:=⟨_,rfl⟩
    have HY:Hid (s0.at k=qk / 2 ^ (64 - 32)):=(by rw [hqk];exact hsq k hlt:s0.at k=qk / 2 ^ (64 - 32))
    rw [←hqk] at rq
    clear hqk hpad hFl hrk2 hrq hL2 hZ2
    have hS:∀ w':World,Below w2.heap.size wr w'→∀ b o,b<w2.heap.size→w'.cell? ⟨b,o,none⟩=wr.cell? ⟨b,o,none⟩:=fun w' h b o hb=>h.cell (p:=⟨b,o,none⟩) hb
    have hbd:∀ m,Below wr.heap.size wr (wr.drewN m):=fun m=>below_drewN (Below.refl _ _) m
    have hb0:Below w2.heap.size wr wr.drew:=(Below.refl _ _).drew
    have hki:(0:Int)≤(k:Int)∧(k:Int)<8:=by omega
    have hown0:=own_below hown ((Below.refl _ _).drew:Below wr.heap.size wr wr.drew)
    have hsz0:w2.heap.size≤wr.drew.heap.size:=hsr
    have h00:min (IntKind.u64.wrap (IntKind.i64.wrap 0)).toNat 64=0:=by rfl
    have hy:(qk / 4294967296:Int)=(s0.at k:Int):=by
     try rw [h00]
     rw [HY.out]
     simp
    clear h00
    have HYY:Hid ((qk / 4294967296:Int)=(s0.at k:Int)):=hy
    clear hy
    go_wp2
    go_region_held3 (fun w'=>Below w2.heap.size wr w') (first | assumption | exact Below.alloc (by assumption) (by assumption) _) (first | (refine step_append_next64 rfl (.tmp 20) (.tmp 30) rfl w2.heap.size _ k s0.at _ rfl hown0 _ rfl rfl HYY.out (by omega) hsz0 ?_;intro v' w' hown1 hbx;have hbn:Below w2.heap.size wr w':=hb0.trans hbx))
    clear hS hb0 hbd z0 z1 z2 z3 z4 z5 z6 rq
    go_wp2
    go_roundw
    case rel =>
     first
      | exact ⟨k+1,by omega,by go_num,hown1,hbel.trans hbn⟩
      | (repeat apply Exists.intro
         refine ⟨?_,rfl⟩
         exact ⟨k+1,by omega,by go_num,hown1,hbel.trans hbn⟩)
    case measure=>simp [intOf];omega
  · have hke:k=8:=by omega
    rw [hke] at hown
    clear hke
    obtain ⟨gs,cs,hu7,hgs,hgsl⟩:=hown.form (by decide)
    subst hu7
    have hrs:RowAt .u64 wr gs 0 8 s0.at:=fun j hj=>by
     rw [Nat.zero_add]
     exact ⟨by rw [hown.cellAt j (by omega),ints_at _ _ _ j hj],hown.frozenAt j⟩
    have hwr:Below w.heap.size w wr:=hw2.trans (hbel.mono (by omega))
    have hpad':=hpad wr hwr
    have hZ:=hZ2.below hbel
    obtain ⟨z0,z1,z2,z3,z4,z5,z6⟩:=hZ
    clear hpad hrq hsq hown
    go_wp2_with (go_at_call 195;refine hpad'.mono ?_;rintro e w4 ⟨vp,rfl,ownp,hb4⟩)
    clear z0 z1 z2 z3 z4 z5 z6 hpad'
    rcases ownp.form with ⟨-,h0⟩ | ⟨gp,cp,hvp,hgp,hgpl,hcp,hrp⟩
    · omega
    subst hvp
    obtain ⟨N,hNe⟩:∃ N,N=T*64:=⟨_,rfl⟩
    rw [←hNe] at hcp hrp hTb ⊢
    have hs4:=hb4.size
    have hw4:Below w2.heap.size w2 w4:=hbel.trans (hb4.mono hsr)
    have hww:Below w.heap.size w w4:=hw2.trans (hw4.mono (by omega))
    have hrs4:RowAt .u64 w4 gs 0 8 s0.at:=hrs.below hb4 hgsl
    have hrk4:RowAt .u64 w4 gk 0 80 cubeK:=hrk2.below hw4 hgk2
    have hL4:=hL2.below hw4
    have hZ4:=hZ2.below hw4
    have hk4:gk<w4.heap.size:=by omega
    have hz4:w.heap.size<w4.heap.size:=by omega
    have hgs4:w.heap.size≤gs:=by omega
    have HN:Hid (N=T*64):=hNe
    clear ownp hb4 hw4 hrs hrk2 hL2 hZ2 hbel hs4 hsr hwr hk hlt hNe hw2 hgq2 hgk2 hzl hT hn
    go_loopw [7,10] (fun v i wq=>∃ t P g c:Nat,t≤T∧Hid (P=t*64)∧i = .int .i64 P∧v = .slice (some ⟨g,0,none⟩) 8 c∧RowAt .u64 wq g 0 8 (loopS rn cubeK s0 F t).at∧w.heap.size≤g∧Below w4.heap.size w4 wq) (fun _ i _=>N - (intOf i).toNat)
    case atStart=>exact ⟨0,0,gs,cs,Nat.zero_le _,(by omega:0=0*64),rfl,rfl,hrs4,hgs4,Below.refl _ _⟩
    case round =>
     clear hrs4
     obtain ⟨t,P,g,c,ht,HP,rfl,rfl,hrow,hgw,hbq⟩:=hrel
     have hsq4:=hbq.size
     have hgl:g<wr.heap.size:=block_lt_of_cell (hrow 0 (by decide)).1
     have hZ:=hZ4.below hbq
     by_cases hlt:t<T
     · have hPN:P+64≤N:=by have:=HP.out;have:=HN.out;omega
       have hPi:(P:Int)<N:=by omega
       have hblk:∀ W':World,Below wr.heap.size wr W'→Calls Tryz.prog 196 #[(.agg #[.int .i64 32,.int .i64 64,.int .i64 64,.slice (some ⟨g0,0,none⟩) 3 3,.slice (some ⟨g1,0,none⟩) 3 3,.slice (some ⟨g2,0,none⟩) 3 3,.slice (some ⟨g3,0,none⟩) 3 3]),.slice (some ⟨g,0,none⟩) 8 c,.slice (some ⟨gk,0,none⟩) 80 80,.slice (some ⟨gp,P,none⟩) 64 (cp - P)] W' fun e w'=>∃ g' c',e = .returned (.slice (some ⟨g',0,none⟩) 8 c')∧W'.heap.size≤g'∧RowAt .u64 w' g' 0 8 (loopS rn cubeK s0 F (t+1)).at∧Below W'.heap.size W' w':=fun W' h=>by
        have hl:=hbq.trans (h.mono hsq4)
        have hh:=blockR32_any cubeK g0 g1 g2 g3 g c gk 80 gp P (cp - P) (loopS rn cubeK s0 F t) (loopS_lt (r:=rn) hsl t) (fun j=>F (P+j)) (fun j=>hFl _) W' (hL4.below hl)
         (fun j hj=>by have:=((hrow.below h hgl) j hj).1;rwa [Nat.zero_add] at this)
         (fun j hj=>by have:=((hrk4.below hl hk4) j hj).1;rwa [Nat.zero_add] at this)
         (fun j hj=>by have:=((hrp.below hl hgpl) (P+j) (by omega)).1;rwa [Nat.zero_add] at this)
        rw [blockR32_eq _ _ (fun j=>hFl _)] at hh
        have e:blockS rn cubeK (fun j=>F (P+j)) (loopS rn cubeK s0 F t)=loopS rn cubeK s0 F (t+1):=by
         rw [HP.out];rfl
        rw [e] at hh
        exact hh
       have hsm:∀ W:World,(Instr.sliceAt 29 (.slice (some ⟨gp,0,none⟩) N cp) (some (.int .i64 P)) (some (.int .i64 ((P:Int)+64))) none).run Tryz.prog W = .ok (.slice (some ⟨gp,P,none⟩) 64 (cp - P)) W:=fun W=>by
        have h:=sliceMid W gp 0 N cp P 64 (by decide) (by omega)
        rw [Nat.zero_add] at h
        exact h
       have hw64:IntKind.i64.wrap ((P:Int)+64)=(P:Int)+64:=by simp only [IntKind.wrap_i64];omega
       have b1:(0:Int)≤(P:Int):=by omega
       have b2:(P:Int)≤(P:Int)+64:=by omega
       have b3:(P:Int)+64≤(cp:Int):=by omega
       obtain ⟨z0,z1,z2,z3,z4,z5,z6⟩:=hZ
       have hS:∀ w':World,Below wr.heap.size wr w'→∀ b o,b<wr.heap.size→w'.cell? ⟨b,o,none⟩=wr.cell? ⟨b,o,none⟩:=fun w' h b o hb=>h.cell (p:=⟨b,o,none⟩) hb
       have hb0:Below wr.heap.size wr wr.drew:=(Below.refl _ _).drew
       have m0:w.heap.size<wr.heap.size:=by omega
       have hPb:(P:Int)+64<140737488355328:=by omega
       clear hrow hL4 hZ4 hrk4 hrp hFl hsl
       go_wp2
       go_region_held3 (fun w'=>Below wr.heap.size wr w') (first | assumption) (first
        | (go_at_call 196;refine (hblk _ (by assumption)).mono ?_;rintro e w' ⟨g',c',rfl,hg',hrow',hb⟩;have hbn:=below_next (W:=wr) (by assumption) hb))
       have zz:=(hbn.cell (p:=⟨w.heap.size,1,none⟩) m0).trans z1
       clear hblk hS hb0 z0 z1 z2 z3 z4 z5 z6 hsm b1 b2 b3 hw64
       go_wp2
       go_roundw
       case rel =>
        have hP':P+64=(t+1)*64:=by have:=HP.out;omega
        have hg2:w.heap.size≤g':=by simp only [World.size_drew] at hg';omega
        exact ⟨t+1,P+64,g',c',by omega,hP',by go_num,rfl,hrow',hg2,hbq.trans (hbn.mono hsq4)⟩
       case measure=>simp [intOf];omega
     · have hte:t=T:=by omega
       have hPN:P=N:=by have:=HP.out;have:=HN.out;rw [hte] at *;omega
       rw [hte] at hrow
       obtain ⟨x,hxe⟩:∃ x,x=loopS rn cubeK s0 F T:=⟨_,rfl⟩
       have HX:Hid (x=loopS rn cubeK s0 F T):=hxe
       rw [←hxe] at hrow
       clear hxe hte hL4 hZ4 hrk4 hrp hFl hsl
       obtain ⟨z0,z1,z2,z3,z4,z5,z6⟩:=id hZ
       obtain ⟨Wq,hWq⟩:∃ W,W=wr:=⟨_,rfl⟩
       subst hWq
       go_wp2
       clear z0 z1 z2 z3 z4 z5 z6
       go_loopw [11,12] (fun o i wx=>∃ k:Nat,k≤8∧i = .int .i64 k∧Own Wq.heap.size wx o (k*4) (outB 32 x)∧Below Wq.heap.size Wq wx) (fun _ i _=>8 - (intOf i).toNat)
       case atStart=>exact ⟨0,Nat.zero_le _,rfl,(Own.nil _ _ _).start (by omega),Below.refl _ _⟩
       case round =>
        clear hPN hlt
        obtain ⟨k,hk,rfl,own,hb⟩:=hrel
        have hsx:=hb.size
        by_cases hlt:k<8
        · obtain ⟨z0,z1,z2,z3,z4,z5,z6⟩:=hZ.below hb
          go_wp2
          clear z0 z1 z2 z3 z4 z5 z6
          have hd:decide ((k:Int)<8)=true:=decide_eq_true (by omega)
          rw [hd]
          clear hd
          go_loopw [11,13] (fun o m wy=>∃ t:Nat,t≤4∧m = .int .i64 (32 - 8 - 8*(t:Int))∧Own Wq.heap.size wy o (k*4+t) (outB 32 x)∧Below Wq.heap.size Wq wy) (fun o _ _=>k*4+4 - lenV o)
          case atStart=>exact ⟨0,Nat.zero_le _,by go_num,own,hb⟩
          case round =>
           clear own hb hsx
           obtain ⟨q,hq,rfl,own,hb⟩:=hrel
           have hsx:=hb.size
           have hc:wr.cell? ⟨g,k,none⟩=some (.int .u64 (x.at k)):=by have:=((hrow.below hb hgl) k hlt).1;rwa [Nat.zero_add] at this
           by_cases hlq:q<4
           · obtain ⟨m,hm⟩:∃ m:Nat,m=32 - 8 - 8*q:=⟨_,rfl⟩
             have hmi:(32 - 8 - 8*(q:Int))=(m:Int):=by omega
             have hF:Hid (((x.at k / 2 ^ m%256:Nat):Int)=(outB 32 x (k*4+q):Int)):=by
              show ((x.at k / 2 ^ m%256:Nat):Int)=(outB 32 x (k*4+q):Int)
              unfold outB
              rw [show (k*4+q) / (32 / 8)=k by omega,show 32 - 8 - (k*4+q)%(32 / 8)*8=m by omega]
             have hlen:Hid (lenV u11=k*4+q):=by
              show lenV u11=k*4+q
              rcases own.form with ⟨rfl,h0⟩ | ⟨_,_,rfl,_⟩
              · rw [h0];rfl
              · rfl
             have HM:Hid (m=32 - 8 - 8*q):=hm
             have hml:m<32:=by omega
             rw [hmi]
             clear hm hmi
             go_wp2_with (at_builtin;refine wpList_append_next rfl (.tmp 65) (.tmp 74) rfl Wq.heap.size _ (k*4+q) (outB 32 x) _ rfl own rfl (by rw [←hF.out];simp) (by omega) hsx ?_;intro v3 w3 own3 hb3)
             have hl3:lenV v3=k*4+q+1:=by
              rcases own3.form with ⟨_,h0⟩ | ⟨_,_,rfl,_⟩
              · omega
              · rfl
             go_roundw
             case rel=>exact ⟨q+1,by omega,by have:=HM.out;go_num,own3.start (by omega),hb.trans hb3⟩
             case measure=>have:=hlen.out;omega
           · have hqe:q=4:=by omega
             go_wp2
             go_roundw
             case rel=>exact ⟨k+1,by omega,by go_num,own.start (by omega),hb⟩
             case measure=>simp [intOf];omega
        · have hke:k=8:=by omega
          go_wp2
          go_ret
          rw [HS.out,←HX.out]
          exact ⟨_,rfl,own_base (own.start (by omega)) (by omega),hww.trans ((hbq.trans (hb.mono (by omega))).mono (by omega))⟩
set_option maxHeartbeats 1000000 in
theorem rSum256_any (v:Value) (n:Nat) (bs:Nat→Nat) (hbs:∀ j,bs j<256) (w:World) (hv:BytesIn w v n bs) (hn:n<140737488355000) :
 Calls Tryz.prog 64 #[v] w fun e w'=>∃ v',e = .returned v'∧Own w.heap.size w' v' 32 (outB 32 (specS rn cubeK squareK n bs))∧Below w.heap.size w w':=by
 have hk:∀ (w1:World) (g0 g1 g2 g3:Nat),Lists32 w1 g0 g1 g2 g3→Below w.heap.size w w1→Calls Tryz.prog 138 #[(.agg #[.int .i64 32,.int .i64 64,.int .i64 64,.slice (some ⟨g0,0,none⟩) 3 3,.slice (some ⟨g1,0,none⟩) 3 3,.slice (some ⟨g2,0,none⟩) 3 3,.slice (some ⟨g3,0,none⟩) 3 3]),v] (w1.alloc (.cells #[.int .i64 32,.int .i64 64,.int .i64 64,.slice (some ⟨g0,0,none⟩) 3 3,.slice (some ⟨g1,0,none⟩) 3 3,.slice (some ⟨g2,0,none⟩) 3 3,.slice (some ⟨g3,0,none⟩) 3 3] 162)) fun e w'=>∃ v',e = .returned v'∧Own w.heap.size w' v' 32 (outB 32 (specS rn cubeK squareK n bs))∧Below w.heap.size w w':=fun w1 g0 g1 g2 g3 hL hb=>by
  have hb2:=hb.alloc hb.size (.cells #[.int .i64 32,.int .i64 64,.int .i64 64,.slice (some ⟨g0,0,none⟩) 3 3,.slice (some ⟨g1,0,none⟩) 3 3,.slice (some ⟨g2,0,none⟩) 3 3,.slice (some ⟨g3,0,none⟩) 3 3] 162)
  refine (sumR32_any g0 g1 g2 g3 v n bs hbs (w1.alloc (.cells #[.int .i64 32,.int .i64 64,.int .i64 64,.slice (some ⟨g0,0,none⟩) 3 3,.slice (some ⟨g1,0,none⟩) 3 3,.slice (some ⟨g2,0,none⟩) 3 3,.slice (some ⟨g3,0,none⟩) 3 3] 162)) (hL.below ((Below.refl _ _).alloc (Nat.le_refl _) _)) (hv.keep hb2) hn).mono ?_
  rintro e w' ⟨v',rfl,ho,hb'⟩
  exact ⟨v',rfl,own_base ho hb2.size,hb2.trans (hb'.mono hb2.size)⟩
 clear hv
 go_enter Tryz.func64,Tryz.ntmps64
 go_wp2_with (first
  | (go_at_call 137;refine (hsmall_any _).mono ?_;rintro e w1 ⟨g0,g1,g2,g3,rfl,hL,hb1⟩;replace hk:=hk w1 g0 g1 g2 g3 hL hb1)
  | (go_at_call 138;refine hk.mono ?_;rintro e w' ⟨v',rfl,ho,hb'⟩))
 go_ret
 exact ⟨v',rfl,ho,hb'⟩
end Go.Proofs.YtddkbmnkbfciaaaGreatDoor
