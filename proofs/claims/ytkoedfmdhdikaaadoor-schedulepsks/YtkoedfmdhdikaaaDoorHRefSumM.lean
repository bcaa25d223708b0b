/- What the proof stands on: HRefSum, HRefHmac, HRefExpand, HExtr. -/
import Derived.Test.YtkoedfmdhdikaaaDoorHExpM
import Derived.Test.YtkoedfmdhdikaaaDoorHHashMM
import Derived.Test.YtkoedfmdhdikaaaDoorHRefBlockM
namespace Go.Proofs.YtkoedfmdhdikaaaDoor
open Go.RowKit
set_option maxRecDepth 20000 in
set_option maxHeartbeats 4000000 in
theorem sumR32_any (g0 g1 g2 g3:Nat) (v:Value) (n:Nat) (bs:Nat→Nat) (hbs:∀ j,bs j<256) (w:World) (hL:Lists32 w g0 g1 g2 g3) (hv:BytesIn w v n bs) (hn:n<140737488355000) :
 Calls Tryd.prog 65 #[(.agg #[.int .i64 32,.int .i64 64,.int .i64 64,.slice (some ⟨g0,0,none⟩) 3 3,.slice (some ⟨g1,0,none⟩) 3 3,.slice (some ⟨g2,0,none⟩) 3 3,.slice (some ⟨g3,0,none⟩) 3 3]),v] w fun e w'=>∃ v',e = .returned v'∧Own w.heap.size w' v' 32 (outB 32 (specS rn cubeK squareK n bs))∧Below w.heap.size w w':=by
 have hpad:=fun W' (h:Below w.heap.size w W')=>padded32_any g0 g1 g2 g3 v n bs W' (hv.keep h) hn
 have hzb:=zbox32 w g0 g1 g2 g3
 obtain ⟨F,hF⟩:∃ F,F=cat n bs (padF rn n):=⟨_,rfl⟩
 have hFl:∀ j,F j<256:=by rw [hF];exact cat_lt hbs (padF_lt _ _)
 obtain ⟨T,hT,hT0⟩:=padN32_mod n
 have hTb:T*64<140737488355328:=by have:=padN32_le n;omega
 have HS:Hid (specS rn cubeK squareK n bs=loopS rn cubeK (firstS rn squareK) F T):=by
  show specS rn cubeK squareK n bs=_
  unfold specS
  rw [←hF,hT,show T*64 / (2*Ru.m rn)=T from Nat.mul_div_cancel T (by decide)]
 rw [←hF,hT] at hpad
 clear hF hv
 go_enter Tryd.func65,Tryd.ntmps65
 go_wp2_with (first
  | (go_at_call 73;refine (constants_any _).mono ?_;rintro e w1 ⟨gk,rfl,hgk,hrk,hb1⟩;simp only [World.size_alloc] at hgk hb1)
  | (go_at_call 74;refine (first_any _).mono ?_;rintro e w2 ⟨gq,rfl,hgq,hrq,hb2⟩))
 have hs1:=hb1.size
 have hs2:=hb2.size
 simp only [World.size_alloc] at hs1
 have hZ2:ZBox32 w2 w.heap.size g0 g1 g2 g3:=by
  have hc:∀ j,w2.cell? ⟨w.heap.size,j,none⟩=(w.alloc (.cells #[.int .i64 32,.int .i64 64,.int .i64 64,.slice (some ⟨g0,0,none⟩) 3 3,.slice (some ⟨g1,0,none⟩) 3 3,.slice (some ⟨g2,0,none⟩) 3 3,.slice (some ⟨g3,0,none⟩) 3 3] 98)).cell? ⟨w.heap.size,j,none⟩:=fun j=>(hb2.cell (p:=⟨w.heap.size,j,none⟩) (by show w.heap.size<_;omega)).trans (hb1.cell (p:=⟨w.heap.size,j,none⟩) (Nat.lt_succ_self _))
  unfold ZBox32 at *
  simp only [hc]
  exact hzb
 have hgk1:gk<w1.heap.size:=block_lt_of_cell (hrk 0 (by decide)).1
 have hgq2:gq<w2.heap.size:=block_lt_of_cell (hrq 0 (by decide)).1
 have hrk2:RowAt .u64 w2 gk 0 80 cubeK:=hrk.below hb2 hgk1
 have hw2:Below w.heap.size w w2:=((Below.refl _ _).alloc (Nat.le_refl _) _).trans ((hb1.mono (by omega)).trans (hb2.mono (by omega)))
 have hL2:=hL.below hw2
 have hzl:w.heap.size<w2.heap.size:=by omega
 have hgk2:gk<w2.heap.size:=by omega
 clear hrk hb1 hb2 hs1 hs2 hzb hgk1 hgk hgq hL
 obtain ⟨s0,hs0⟩:∃ s0,s0=firstS rn squareK:=⟨_,rfl⟩
 have hsl:s0.lt (2 ^ 32):=by rw [hs0];exact firstS_lt rn squareK (by decide) squareK_lt
 have hsq:∀ k,k<8→s0.at k=squareK k / 2 ^ (64 - 32):=fun k hk=>by
  rw [hs0]
  match k,hk with
  | 0,_=>rfl
  | 1,_=>rfl
  | 2,_=>rfl
  | 3,_=>rfl
  | 4,_=>rfl
  | 5,_=>rfl
  | 6,_=>rfl
  | 7,_=>rfl
 rw [←hs0] at HS
 clear hs0
 go_loopw [7,8] (fun v i wr=>∃ k:Nat,k≤8∧i = .int .i64 k∧wr.ownsRow w2.heap.size 117 1 v k (ints .u64 k s0.at)∧Below w2.heap.size w2 wr) (fun _ i _=>8 - (intOf i).toNat)
 case atStart=>exact ⟨0,Nat.zero_le _,rfl,World.ownsRow_nil _ _ _ _,Below.refl _ _⟩
 case round =>
  obtain ⟨k,hk,rfl,hown,hbel⟩:=hrel
  have hsr:=hbel.size
  by_cases hlt:k<8
  · have hZ:=hZ2.below hbel
    obtain ⟨z0,z1,z2,z3,z4,z5,z6⟩:=hZ
    have rq:wr.cell? ⟨gq,k,none⟩=some (.int .u64 (squareK k)):=by
     have:=(hrq k hlt).1
     rw [Nat.zero_add] at this
     exact (hbel.cell (p:=⟨gq,k,none⟩) hgq2).trans this
    obtain ⟨qk,hqk⟩:∃ qk,qk=squareK k:=⟨_,rfl⟩
    have HY:Hid (s0.at k=qk / 2 ^ (64 - 32)):=(by rw [hqk];exact hsq k hlt:s0.at k=qk / 2 ^ (64 - 32))
    rw [←hqk] at rq
    clear hqk hpad hFl hrk2 hrq hL2 hZ2
    have hS:∀ w':World,Below w2.heap.size wr w'→∀ b o,b<w2.heap.size→w'.cell? ⟨b,o,none⟩=wr.cell? ⟨b,o,none⟩:=fun w' h b o hb=>h.cell (p:=⟨b,o,none⟩) hb
    have hbd:∀ m,Below wr.heap.size wr (wr.drewN m):=fun m=>below_drewN (Below.refl _ _) m
    have hb0:Below w2.heap.size wr wr.drew:=(Below.refl _ _).drew
    have hki:(0:Int)≤(k:Int)∧(k:Int)<8:=by omega
    have hown0:=own_below hown ((Below.refl _ _).drew:Below wr.heap.size wr wr.drew)
    have hsz0:w2.heap.size≤wr.drew.heap.size:=hsr
    have h00:min (IntKind.u64.wrap (IntKind.i64.wrap 0)).toNat 64=0:=by rfl
    have hy:(qk / 4294967296:Int)=(s0.at k:Int):=by
     try rw [h00]
     rw [HY.out]
     simp
    clear h00
    have HYY:Hid ((qk / 4294967296:Int)=(s0.at k:Int)):=hy
    clear hy
    go_wp2
    go_region_held3 (fun w'=>Below w2.heap.size wr w') (first | assumption | exact Below.alloc (by assumption) (by assumption) _) (first | (refine step_append_next64 rfl (.tmp 20) (.tmp 30) rfl w2.heap.size _ k s0.at _ rfl hown0 _ rfl rfl HYY.out (by omega) hsz0 ?_;intro v' w' hown1 hbx;have hbn:Below w2.heap.size wr w':=hb0.trans hbx))
    clear hS hb0 hbd z0 z1 z2 z3 z4 z5 z6 rq
    go_wp2
    go_roundw
    case rel =>
     first
      | exact ⟨k+1,by omega,by go_num,hown1,hbel.trans hbn⟩
      | (repeat apply Exists.intro
         refine ⟨?_,rfl⟩
         exact ⟨k+1,by omega,by go_num,hown1,hbel.trans hbn⟩)
    case measure=>simp [intOf];omega
  · have hke:k=8:=by omega
    rw [hke] at hown
    clear hke
    obtain ⟨gs,cs,hu7,hgs,hgsl⟩:=hown.form (by decide)
    subst hu7
    have hrs:RowAt .u64 wr gs 0 8 s0.at:=fun j hj=>by
     rw [Nat.zero_add]
     exact ⟨by rw [hown.cellAt j (by omega),ints_at _ _ _ j hj],hown.frozenAt j⟩
    have hwr:Below w.heap.size w wr:=hw2.trans (hbel.mono (by omega))
    have hpad':=hpad wr hwr
    have hZ:=hZ2.below hbel
    obtain ⟨z0,z1,z2,z3,z4,z5,z6⟩:=hZ
    clear hpad hrq hsq hown
    go_wp2_with (go_at_call 75;refine hpad'.mono ?_;rintro e w4 ⟨vp,rfl,ownp,hb4⟩)
    clear z0 z1 z2 z3 z4 z5 z6 hpad'
    rcases ownp.form with ⟨-,h0⟩ | ⟨gp,cp,hvp,hgp,hgpl,hcp,hrp⟩
    · omega
    subst hvp
    obtain ⟨N,hNe⟩:∃ N,N=T*64:=⟨_,rfl⟩
    rw [←hNe] at hcp hrp hTb ⊢
    have hs4:=hb4.size
    have hw4:Below w2.heap.size w2 w4:=hbel.trans (hb4.mono hsr)
    have hww:Below w.heap.size w w4:=hw2.trans (hw4.mono (by omega))
    have hrs4:RowAt .u64 w4 gs 0 8 s0.at:=hrs.below hb4 hgsl
    have hrk4:RowAt .u64 w4 gk 0 80 cubeK:=hrk2.below hw4 hgk2
    have hL4:=hL2.below hw4
    have hZ4:=hZ2.below hw4
    have hk4:gk<w4.heap.size:=by omega
    have hz4:w.heap.size<w4.heap.size:=by omega
    have hgs4:w.heap.size≤gs:=by omega
    have HN:Hid (N=T*64):=hNe
    clear ownp hb4 hw4 hrs hrk2 hL2 hZ2 hbel hs4 hsr hwr hk hlt hNe hw2 hgq2 hgk2 hzl hT hn
    go_loopw [7,10] (fun v i wq=>∃ t P g c:Nat,t≤T∧Hid (P=t*64)∧i = .int .i64 P∧v = .slice (some ⟨g,0,none⟩) 8 c∧RowAt .u64 wq g 0 8 (loopS rn cubeK s0 F t).at∧w.heap.size≤g∧Below w4.heap.size w4 wq) (fun _ i _=>N - (intOf i).toNat)
    case atStart=>exact ⟨0,0,gs,cs,Nat.zero_le _,(by omega:0=0*64),rfl,rfl,hrs4,hgs4,Below.refl _ _⟩
    case round =>
     clear hrs4
     obtain ⟨t,P,g,c,ht,HP,rfl,rfl,hrow,hgw,hbq⟩:=hrel
     have hsq4:=hbq.size
     have hgl:g<wr.heap.size:=block_lt_of_cell (hrow 0 (by decide)).1
     have hZ:=hZ4.below hbq
     by_cases hlt:t<T
     · have hPN:P+64≤N:=by have:=HP.out;have:=HN.out;omega
       have hPi:(P:Int)<N:=by omega
       have hblk:∀ W':World,Below wr.heap.size wr W'→Calls Tryd.prog 76 #[(.agg #[.int .i64 32,.int .i64 64,.int .i64 64,.slice (some ⟨g0,0,none⟩) 3 3,.slice (some ⟨g1,0,none⟩) 3 3,.slice (some ⟨g2,0,none⟩) 3 3,.slice (some ⟨g3,0,none⟩) 3 3]),.slice (some ⟨g,0,none⟩) 8 c,.slice (some ⟨gk,0,none⟩) 80 80,.slice (some ⟨gp,P,none⟩) 64 (cp - P)] W' fun e w'=>∃ g' c',e = .returned (.slice (some ⟨g',0,none⟩) 8 c')∧W'.heap.size≤g'∧RowAt .u64 w' g' 0 8 (loopS rn cubeK s0 F (t+1)).at∧Below W'.heap.size W' w':=fun W' h=>by
        have hl:=hbq.trans (h.mono hsq4)
        have hh:=blockR32_any cubeK g0 g1 g2 g3 g c gk 80 gp P (cp - P) (loopS rn cubeK s0 F t) (loopS_lt (r:=rn) hsl t) (fun j=>F (P+j)) (fun j=>hFl _) W' (hL4.below hl)
         (fun j hj=>by have:=((hrow.below h hgl) j hj).1;rwa [Nat.zero_add] at this)
         (fun j hj=>by have:=((hrk4.below hl hk4) j hj).1;rwa [Nat.zero_add] at this)
         (fun j hj=>by have:=((hrp.below hl hgpl) (P+j) (by omega)).1;rwa [Nat.zero_add] at this)
        rw [blockR32_eq _ _ (fun j=>hFl _)] at hh
        have e:blockS rn cubeK (fun j=>F (P+j)) (loopS rn cubeK s0 F t)=loopS rn cubeK s0 F (t+1):=by
         rw [HP.out];rfl
        rw [e] at hh
        exact hh
       have hsm:∀ W:World,(Instr.sliceAt 24 (.slice (some ⟨gp,0,none⟩) N cp) (some (.int .i64 P)) (some (.int .i64 ((P:Int)+64))) none).run Tryd.prog W = .ok (.slice (some ⟨gp,P,none⟩) 64 (cp - P)) W:=fun W=>by
        have h:=sliceMid W gp 0 N cp P 64 (by decide) (by omega)
        rw [Nat.zero_add] at h
        exact h
       have hw64:IntKind.i64.wrap ((P:Int)+64)=(P:Int)+64:=by simp only [IntKind.wrap_i64];omega
       have b1:(0:Int)≤(P:Int):=by omega
       have b2:(P:Int)≤(P:Int)+64:=by omega
       have b3:(P:Int)+64≤(cp:Int):=by omega
       obtain ⟨z0,z1,z2,z3,z4,z5,z6⟩:=hZ
       have hS:∀ w':World,Below wr.heap.size wr w'→∀ b o,b<wr.heap.size→w'.cell? ⟨b,o,none⟩=wr.cell? ⟨b,o,none⟩:=fun w' h b o hb=>h.cell (p:=⟨b,o,none⟩) hb
       have hb0:Below wr.heap.size wr wr.drew:=(Below.refl _ _).drew
       have m0:w.heap.size<wr.heap.size:=by omega
       have hPb:(P:Int)+64<140737488355328:=by omega
       clear hrow hL4 hZ4 hrk4 hrp hFl hsl
       go_wp2
       go_region_held3 (fun w'=>Below wr.heap.size wr w') (first | assumption) (first
        | (go_at_call 76;refine (hblk _ (by assumption)).mono ?_;rintro e w' ⟨g',c',rfl,hg',hrow',hb⟩;have hbn:=below_next (W:=wr) (by assumption) hb))
       have zz:=(hbn.cell (p:=⟨w.heap.size,1,none⟩) m0).trans z1
       clear hblk hS hb0 z0 z1 z2 z3 z4 z5 z6 hsm b1 b2 b3 hw64
       go_wp2
       go_roundw
       case rel =>
        have hP':P+64=(t+1)*64:=by have:=HP.out;omega
        have hg2:w.heap.size≤g':=by simp only [World.size_drew] at hg';omega
        exact ⟨t+1,P+64,g',c',by omega,hP',by go_num,rfl,hrow',hg2,hbq.trans (hbn.mono hsq4)⟩
       case measure=>simp [intOf];omega
     · have hte:t=T:=by omega
       have hPN:P=N:=by have:=HP.out;have:=HN.out;rw [hte] at *;omega
       rw [hte] at hrow
       obtain ⟨x,hxe⟩:∃ x,x=loopS rn cubeK s0 F T:=⟨_,rfl⟩
       have HX:Hid (x=loopS rn cubeK s0 F T):=hxe
       rw [←hxe] at hrow
       clear hxe hte hL4 hZ4 hrk4 hrp hFl hsl
       obtain ⟨z0,z1,z2,z3,z4,z5,z6⟩:=id hZ
       obtain ⟨Wq,hWq⟩:∃ W,W=wr:=⟨_,rfl⟩
       subst hWq
       go_wp2
       clear z0 z1 z2 z3 z4 z5 z6
       go_loopw [11,12] (fun o i wx=>∃ k:Nat,k≤8∧i = .int .i64 k∧Own Wq.heap.size wx o (k*4) (outB 32 x)∧Below Wq.heap.size Wq wx) (fun _ i _=>8 - (intOf i).toNat)
       case atStart=>exact ⟨0,Nat.zero_le _,rfl,(Own.nil _ _ _).start (by omega),Below.refl _ _⟩
       case round =>
        clear hPN hlt
        obtain ⟨k,hk,rfl,own,hb⟩:=hrel
        have hsx:=hb.size
        by_cases hlt:k<8
        · obtain ⟨z0,z1,z2,z3,z4,z5,z6⟩:=hZ.below hb
          go_wp2
          clear z0 z1 z2 z3 z4 z5 z6
          have hd:decide ((k:Int)<8)=true:=decide_eq_true (by omega)
          rw [hd]
          clear hd
          go_loopw [11,13] (fun o m wy=>∃ t:Nat,t≤4∧m = .int .i64 (32 - 8 - 8*(t:Int))∧Own Wq.heap.size wy o (k*4+t) (outB 32 x)∧Below Wq.heap.size Wq wy) (fun o _ _=>k*4+4 - lenV o)
          case atStart=>exact ⟨0,Nat.zero_le _,by go_num,own,hb⟩
          case round =>
           clear own hb hsx
           obtain ⟨q,hq,rfl,own,hb⟩:=hrel
           have hsx:=hb.size
           have hc:wr.cell? ⟨g,k,none⟩=some (.int .u64 (x.at k)):=by have:=((hrow.below hb hgl) k hlt).1;rwa [Nat.zero_add] at this
           by_cases hlq:q<4
           · obtain ⟨m,hm⟩:∃ m:Nat,m=32 - 8 - 8*q:=⟨_,rfl⟩
             have hmi:(32 - 8 - 8*(q:Int))=(m:Int):=by omega
             have hF:Hid (((x.at k / 2 ^ m%256:Nat):Int)=(outB 32 x (k*4+q):Int)):=by
              show ((x.at k / 2 ^ m%256:Nat):Int)=(outB 32 x (k*4+q):Int)
              unfold outB
              rw [show (k*4+q) / (32 / 8)=k by omega,show 32 - 8 - (k*4+q)%(32 / 8)*8=m by omega]
             have hlen:Hid (lenV u11=k*4+q):=by
              show lenV u11=k*4+q
              rcases own.form with ⟨rfl,h0⟩ | ⟨_,_,rfl,_⟩
              · rw [h0];rfl
              · rfl
             have HM:Hid (m=32 - 8 - 8*q):=hm
             have hml:m<32:=by omega
             rw [hmi]
             clear hm hmi
             go_wp2_with (at_builtin;refine wpList_append_next rfl (.tmp 65) (.tmp 74) rfl Wq.heap.size _ (k*4+q) (outB 32 x) _ rfl own rfl (by rw [←hF.out];simp) (by omega) hsx ?_;intro v3 w3 own3 hb3)
             have hl3:lenV v3=k*4+q+1:=by
              rcases own3.form with ⟨_,h0⟩ | ⟨_,_,rfl,_⟩
              · omega
              · rfl
             go_roundw
             case rel=>exact ⟨q+1,by omega,by have:=HM.out;go_num,own3.start (by omega),hb.trans hb3⟩
             case measure=>have:=hlen.out;omega
           · have hqe:q=4:=by omega
             go_wp2
             go_roundw
             case rel=>exact ⟨k+1,by omega,by go_num,own.start (by omega),hb⟩
             case measure=>simp [intOf];omega
        · have hke:k=8:=by omega
          go_wp2
          go_ret
          rw [HS.out,←HX.out]
          exact ⟨_,rfl,own_base (own.start (by omega)) (by omega),hww.trans ((hbq.trans (hb.mono (by omega))).mono (by omega))⟩
set_option maxHeartbeats 1000000 in
theorem rSum256_any (v:Value) (n:Nat) (bs:Nat→Nat) (hbs:∀ j,bs j<256) (w:World) (hv:BytesIn w v n bs) (hn:n<140737488355000) :
 Calls Tryd.prog 56 #[v] w fun e w'=>∃ v',e = .returned v'∧Own w.heap.size w' v' 32 (outB 32 (specS rn cubeK squareK n bs))∧Below w.heap.size w w':=by
 have hk:∀ (w1:World) (g0 g1 g2 g3:Nat),Lists32 w1 g0 g1 g2 g3→Below w.heap.size w w1→Calls Tryd.prog 65 #[(.agg #[.int .i64 32,.int .i64 64,.int .i64 64,.slice (some ⟨g0,0,none⟩) 3 3,.slice (some ⟨g1,0,none⟩) 3 3,.slice (some ⟨g2,0,none⟩) 3 3,.slice (some ⟨g3,0,none⟩) 3 3]),v] (w1.alloc (.cells #[.int .i64 32,.int .i64 64,.int .i64 64,.slice (some ⟨g0,0,none⟩) 3 3,.slice (some ⟨g1,0,none⟩) 3 3,.slice (some ⟨g2,0,none⟩) 3 3,.slice (some ⟨g3,0,none⟩) 3 3] 98)) fun e w'=>∃ v',e = .returned v'∧Own w.heap.size w' v' 32 (outB 32 (specS rn cubeK squareK n bs))∧Below w.heap.size w w':=fun w1 g0 g1 g2 g3 hL hb=>by
  have hb2:=hb.alloc hb.size (.cells #[.int .i64 32,.int .i64 64,.int .i64 64,.slice (some ⟨g0,0,none⟩) 3 3,.slice (some ⟨g1,0,none⟩) 3 3,.slice (some ⟨g2,0,none⟩) 3 3,.slice (some ⟨g3,0,none⟩) 3 3] 98)
  refine (sumR32_any g0 g1 g2 g3 v n bs hbs (w1.alloc (.cells #[.int .i64 32,.int .i64 64,.int .i64 64,.slice (some ⟨g0,0,none⟩) 3 3,.slice (some ⟨g1,0,none⟩) 3 3,.slice (some ⟨g2,0,none⟩) 3 3,.slice (some ⟨g3,0,none⟩) 3 3] 98)) (hL.below ((Below.refl _ _).alloc (Nat.le_refl _) _)) (hv.keep hb2) hn).mono ?_
  rintro e w' ⟨v',rfl,ho,hb'⟩
  exact ⟨v',rfl,own_base ho hb2.size,hb2.trans (hb'.mono hb2.size)⟩
 clear hv
 go_enter Tryd.func56,Tryd.ntmps56
 go_wp2_with (first
  | (go_at_call 64;refine (hsmall_any _).mono ?_;rintro e w1 ⟨g0,g1,g2,g3,rfl,hL,hb1⟩;replace hk:=hk w1 g0 g1 g2 g3 hL hb1)
  | (go_at_call 65;refine hk.mono ?_;rintro e w' ⟨v',rfl,ho,hb'⟩))
 go_ret
 exact ⟨v',rfl,ho,hb'⟩
end Go.Proofs.YtkoedfmdhdikaaaDoor
namespace Go.Proofs.YtkoedfmdhdikaaaDoor
open Go.RowKit
theorem Own.stored {base:Nat} {w:World} {g n cap:Nat} {X:Nat→Nat} (h:Own base w (.slice (some ⟨g,0,none⟩) n cap) n X) (i:Nat) (v:Int) (u:Nat) (hu:v=(u:Int)):Own base (w.setCell ⟨g,i,none⟩ (.int .u8 v)) (.slice (some ⟨g,0,none⟩) n cap) n (upd X i u):=by
 have h1:=World.ownsRow.stored h i (.int .u8 v)
 unfold Own
 have e:(ints .u8 n X).set i (.int .u8 v)=ints .u8 n (upd X i u):=by
  apply List.ext_getElem?
  intro j
  by_cases hj:j<n
  · rw [ints_at _ _ _ j hj,List.getElem?_set]
    by_cases e:i=j
    · subst e;simp [ints_len,hj,upd,hu]
    · simp only [e,if_false]
      rw [ints_at _ _ _ j hj]
      simp [upd,show ¬j=i from fun h=>e h.symm]
  · rw [List.getElem?_eq_none (by rw [List.length_set,ints_len];omega),List.getElem?_eq_none (by rw [ints_len];omega)]
 rw [←e]
 exact h1.1
theorem zb_ints (n:Nat):(zb n).toList=ints .u8 n (fun _=>0):=by
 apply List.ext_getElem?
 intro j
 by_cases hj:j<n
 · rw [Array.getElem?_toList,zb_at n j hj,ints_at _ _ _ j hj];rfl
 · rw [List.getElem?_eq_none (by simp [zb];omega),List.getElem?_eq_none (by rw [ints_len];omega)]
theorem Own.made (base:Nat) (w:World) (n:Nat) (hn:n≤1000000) (hb:base≤w.heap.size):Own base (w.alloc (.cells (zb n) 5)) (.slice (some ⟨w.heap.size,0,none⟩) n n) n (fun _=>0):=by
 have h:=World.ownsRow_lit (base:=base) (e:=5) (size:=1) w (zb n) n hb (by unfold maxLen;omega) (by simp [zb])
 rw [zb_ints] at h
 exact h
def padG2 (kv:Nat→Nat) (p k:Nat):Nat→Nat:=fun j=>if j<k then kv j ^^^ p else 0
theorem padG2_step (kv:Nat→Nat) (p k j:Nat):upd (padG2 kv p k) k (kv k ^^^ p) j=padG2 kv p (k+1) j:=by
 unfold upd padG2
 by_cases e:j=k
 · subst e;rw [if_pos rfl,if_pos (by omega)]
 · rw [if_neg e]
   by_cases e2:j<k
   · rw [if_pos e2,if_pos (by omega)]
   · rw [if_neg e2,if_neg (by omega)]
set_option maxRecDepth 20000 in
set_option maxHeartbeats 2000000 in
theorem rpad_short_any (xo:Option Addr) (n cx p:Nat) (bs:Nat→Nat) (hbs:∀ j,bs j<256) (hp:p<256) (w:World) (hv:BytesIn w (.slice xo n cx) n bs) (hn:n≤64) :
 Calls Tryd.prog 57 #[.slice xo n cx,.int .u8 p] w fun e w'=>∃ v',e = .returned v'∧Own w.heap.size w' v' 64 (fun j=>keyB n bs j ^^^ p)∧Below w.heap.size w w':=by
 obtain ⟨kv,hkv0⟩:∃ kv,kv=keyB n bs:=⟨_,rfl⟩
 have hkk:Hid (∀ j,kv j=keyB n bs j):=(fun j=>by rw [hkv0]:∀ j,kv j=keyB n bs j)
 have hkvl:∀ j,kv j<256:=fun j=>by rw [hkv0];exact keyB_lt hbs j
 have hkv:∀ j,j<64→kv j=if j<n then bs j else 0:=fun j _=>by rw [hkv0];unfold keyB;rw [if_pos hn]
 have hsrc:∀ k,k<n→∃ bb ob,xo=some ⟨bb,ob,none⟩∧bb<w.heap.size∧w.cell? ⟨bb,ob+k,none⟩=some (.int .u8 (bs k)):=fun k hk=>by
  rcases hv with ⟨_,_,hz⟩ | ⟨bb,ob,cap,e,h1,_,h3⟩
  · omega
  · cases e
    exact ⟨bb,ob,rfl,h1,h3 k hk⟩
 have hW:Below w.heap.size w w:=Below.refl _ _
 have hni:¬(64<(n:Int)):=by omega
 clear hkv0 hv
 have hmk:=fun W=>make_bytes W 64 64 rfl (by decide)
 go_enter Tryd.func57,Tryd.ntmps57
 go_wp2
 go_loopw [7] (fun i wr=>∃ k:Nat,k≤64∧i = .int .i64 k∧Own w.heap.size wr (.slice (some ⟨w.heap.size,0,none⟩) 64 64) 64 (padG2 kv p k)∧Below w.heap.size w wr) (fun i _=>64 - (intOf i).toNat)
 case atStart=>exact ⟨0,Nat.zero_le _,rfl,(Own.made _ _ 64 (by decide) hW.size).congr (fun j _=>by simp [padG2]),(Below.refl _ _).alloc (Nat.le_refl _) _⟩
 case round =>
  obtain ⟨k,hk,rfl,hown,hb⟩:=hrel
  by_cases hlt:k<64
  · have hrow:RowAt .u8 wr w.heap.size 0 64 (padG2 kv p k):=by
     rcases hown.form with ⟨h,_⟩ | ⟨g,cap,h,_,_,_,hr⟩
     · cases h
     · cases h;exact hr
    obtain ⟨rk,rf⟩:=hrow k hlt
    rw [Nat.zero_add] at rk rf
    have ek:padG2 kv p k k=0:=by simp [padG2]
    rw [ek] at rk
    have hki:(0:Int)≤(k:Int)∧(k:Int)<64:=by omega
    have hs1:=hown.stored k (p:Int) p rfl
    by_cases hkm:k<n
    · obtain ⟨bb,ob,hx,hbb,rc⟩:=hsrc k hkm
      cases hx
      have rc':wr.cell? ⟨bb,ob+k,none⟩=some (.int .u8 (kv k)):=by rw [hkv k hlt,if_pos hkm];exact (hb.cell (p:=⟨bb,ob+k,none⟩) hbb).trans rc
      have hne:bb≠w.heap.size:=by omega
      have hki2:(k:Int)<n:=by omega
      have hs2:=hs1.stored k (bits .xor .u8 (kv k:Int) (p:Int)) (kv k ^^^ p) (u8_xor_nat _ _ (hkvl k) hp)
      clear rc hsrc hown hrow hs1 hkv
      go_wp2
      go_roundw
      case rel =>
       exact ⟨k+1,by omega,by go_num,hs2.congr (fun j _=>by rw [←padG2_step];unfold upd;split <;> rfl),(hb.setCell (Nat.le_refl _) _).setCell (Nat.le_refl _) _⟩
      case measure=>simp [intOf];omega
    · have hki2:¬((k:Int)<n):=by omega
      have e0:kv k ^^^ p=p:=by rw [hkv k hlt,if_neg hkm];simp
      clear hsrc hown hrow hkv
      go_wp2
      go_roundw
      case rel =>
       exact ⟨k+1,by omega,by go_num,hs1.congr (fun j _=>by rw [←padG2_step,e0]),hb.setCell (Nat.le_refl _) _⟩
      case measure=>simp [intOf];omega
  · have hke:k=64:=by omega
    rw [hke] at hown
    go_wp2
    go_ret
    exact ⟨_,rfl,hown.congr (fun j hj=>by unfold padG2;rw [if_pos hj,hkk.out j]),hW.trans (hb.mono hW.size)⟩
set_option maxRecDepth 20000 in
set_option maxHeartbeats 2000000 in
theorem rpad_long_any (xo:Option Addr) (n cx p:Nat) (bs:Nat→Nat) (hbs:∀ j,bs j<256) (hp:p<256) (hnb:n<140737488355000) (w:World) (hv:BytesIn w (.slice xo n cx) n bs) (hn:¬n≤64) :
 Calls Tryd.prog 57 #[.slice xo n cx,.int .u8 p] w fun e w'=>∃ v',e = .returned v'∧Own w.heap.size w' v' 64 (fun j=>keyB n bs j ^^^ p)∧Below w.heap.size w w':=by
 obtain ⟨kv,hkv0⟩:∃ kv,kv=keyB n bs:=⟨_,rfl⟩
 have hkk:Hid (∀ j,kv j=keyB n bs j):=(fun j=>by rw [hkv0]:∀ j,kv j=keyB n bs j)
 have hkvl:∀ j,kv j<256:=fun j=>by rw [hkv0];exact keyB_lt hbs j
 have hs:=rSum256_any (.slice xo n cx) n bs hbs w hv hnb
 have hkv:∀ j,j<64→kv j=if j<32 then outB 32 (specS rn cubeK squareK n bs) j else 0:=fun j _=>by rw [hkv0];unfold keyB;rw [if_neg hn]
 obtain ⟨X,hX⟩:∃ X,X=outB 32 (specS rn cubeK squareK n bs):=⟨_,rfl⟩
 rw [←hX] at hs hkv
 have hni:64<(n:Int):=by omega
 clear hkv0 hv hX hn
 have hmk:=fun W=>make_bytes W 64 64 rfl (by decide)
 go_enter Tryd.func57,Tryd.ntmps57
 go_wp2_with (go_at_call 56;refine hs.mono ?_;clear hs;rintro e w1 ⟨vs,rfl,owns,hW⟩;(obtain ⟨gs,cs,hvs,hgs,hgsl,hcs,hrs⟩:∃ g cap,vs = .slice (some ⟨g,0,none⟩) 32 cap∧w.heap.size≤g∧g<w1.heap.size∧32≤cap∧RowAt .u8 w1 g 0 32 X:=owns.form.resolve_left (fun h=>by omega));subst hvs;clear owns)
 have hsrc:∀ k,k<32→∃ bb ob,some (⟨gs,0,none⟩:Addr)=some ⟨bb,ob,none⟩∧bb<w1.heap.size∧w1.cell? ⟨bb,ob+k,none⟩=some (.int .u8 (X k)):=fun k hk=>⟨gs,0,rfl,hgsl,(hrs k hk).1⟩
 go_loopw [7] (fun i wr=>∃ k:Nat,k≤64∧i = .int .i64 k∧Own w.heap.size wr (.slice (some ⟨w1.heap.size,0,none⟩) 64 64) 64 (padG2 kv p k)∧Below w1.heap.size w1 wr) (fun i _=>64 - (intOf i).toNat)
 case atStart=>exact ⟨0,Nat.zero_le _,rfl,(Own.made _ _ 64 (by decide) hW.size).congr (fun j _=>by simp [padG2]),(Below.refl _ _).alloc (Nat.le_refl _) _⟩
 case round =>
  obtain ⟨k,hk,rfl,hown,hb⟩:=hrel
  by_cases hlt:k<64
  · have hrow:RowAt .u8 wr w1.heap.size 0 64 (padG2 kv p k):=by
     rcases hown.form with ⟨h,_⟩ | ⟨g,cap,h,_,_,_,hr⟩
     · cases h
     · cases h;exact hr
    obtain ⟨rk,rf⟩:=hrow k hlt
    rw [Nat.zero_add] at rk rf
    have ek:padG2 kv p k k=0:=by simp [padG2]
    rw [ek] at rk
    have hki:(0:Int)≤(k:Int)∧(k:Int)<64:=by omega
    have hs1:=hown.stored k (p:Int) p rfl
    by_cases hkm:k<32
    · obtain ⟨bb,ob,hx,hbb,rc⟩:=hsrc k hkm
      have hx1:bb=gs:=by injection hx with hx;injection hx with h1 h2;exact h1.symm
      have hx2:ob=0:=by injection hx with hx;injection hx with h1 h2;exact h2.symm
      subst hx1;subst hx2
      rw [Nat.zero_add] at rc
      clear hx
      have rc':wr.cell? ⟨bb,k,none⟩=some (.int .u8 (kv k)):=by rw [hkv k hlt,if_pos hkm];exact (hb.cell (p:=⟨bb,k,none⟩) hbb).trans rc
      have hne:bb≠w1.heap.size:=by omega
      have hki2:(k:Int)<32:=by omega
      have hs2:=hs1.stored k (bits .xor .u8 (kv k:Int) (p:Int)) (kv k ^^^ p) (u8_xor_nat _ _ (hkvl k) hp)
      clear rc hsrc hown hrow hs1 hkv
      go_wp2
      go_roundw
      case rel =>
       exact ⟨k+1,by omega,by go_num,hs2.congr (fun j _=>by rw [←padG2_step];unfold upd;split <;> rfl),(hb.setCell (Nat.le_refl _) _).setCell (Nat.le_refl _) _⟩
      case measure=>simp [intOf];omega
    · have hki2:¬((k:Int)<32):=by omega
      have e0:kv k ^^^ p=p:=by rw [hkv k hlt,if_neg hkm];simp
      clear hsrc hown hrow hkv
      go_wp2
      go_roundw
      case rel =>
       exact ⟨k+1,by omega,by go_num,hs1.congr (fun j _=>by rw [←padG2_step,e0]),hb.setCell (Nat.le_refl _) _⟩
      case measure=>simp [intOf];omega
  · have hke:k=64:=by omega
    rw [hke] at hown
    go_wp2
    go_ret
    exact ⟨_,rfl,hown.congr (fun j hj=>by unfold padG2;rw [if_pos hj,hkk.out j]),hW.trans (hb.mono hW.size)⟩
theorem rpad_any (v:Value) (n p:Nat) (bs:Nat→Nat) (hbs:∀ j,bs j<256) (hp:p<256) (hnb:n<140737488355000) (w:World) (hv:BytesIn w v n bs) :
 Calls Tryd.prog 57 #[v,.int .u8 p] w fun e w'=>∃ v',e = .returned v'∧Own w.heap.size w' v' 64 (fun j=>keyB n bs j ^^^ p)∧Below w.heap.size w w':=by
 obtain ⟨xo,cx,rfl,_,_,_⟩:=hv.src
 by_cases hn:n≤64
 · exact rpad_short_any xo n cx p bs hbs hp w hv hn
 · exact rpad_long_any xo n cx p bs hbs hp hnb w hv hn
theorem Own.bytesIn {base:Nat} {w:World} {v:Value} {n:Nat} {X:Nat→Nat} (h:Own base w v n X):BytesIn w v n X:=by
 rcases h.form with ⟨rfl,h0⟩ | ⟨g,cap,rfl,_,hg,hc,hr⟩
 · exact .inl ⟨none,rfl,h0⟩
 · exact .inr ⟨g,0,cap,rfl,hg,hc,fun j hj=>(hr j hj).1⟩
theorem Own.lower {base base':Nat} {w:World} {v:Value} {n:Nat} {X:Nat→Nat} (h:Own base w v n X) (hb:base'≤base):Own base' w v n X:=World.ownsRow.mono h hb
theorem cat_xor_lt {kv t:Nat→Nat} {p:Nat} (hk:∀ j,kv j<256) (hp:p<256) (ht:∀ j,t j<256):∀ j,cat 64 (fun j=>kv j ^^^ p) t j<256:=cat_lt (fun j=>Nat.xor_lt_two_pow (n:=8) (hk j) hp) ht
set_option maxRecDepth 20000 in
set_option maxHeartbeats 2000000 in
theorem rHmac_any (v tv:Value) (n m:Nat) (bs t:Nat→Nat) (hbs:∀ j,bs j<256) (ht:∀ j,t j<256) (hnb:n<140737488355000) (hm:m+64<140737488355000) (w:World) (hv:BytesIn w v n bs) (htv:BytesIn w tv m t) :
 Calls Tryd.prog 43 #[v,tv] w fun e w'=>∃ v',e = .returned v'∧Own w.heap.size w' v' 32 (tagH (keyB n bs) m t)∧Below w.heap.size w w':=by
 obtain ⟨xt,ct,rfl,hxn,-,hsrc⟩:=htv.src
 have hp1:=rpad_any v n 54 bs hbs (by decide) hnb w hv
 have hp2:=fun W (h:Below w.heap.size w W)=>rpad_any v n 92 bs hbs (by decide) hnb W (hv.keep h)
 obtain ⟨kv,hkv⟩:∃ kv,kv=keyB n bs:=⟨_,rfl⟩
 have hkl:∀ j,kv j<256:=fun j=>by rw [hkv];exact keyB_lt hbs j
 rw [←hkv] at hp1 hp2 ⊢
 have hs1:=fun W v' (h:BytesIn W v' (64+m) (cat 64 (fun j=>kv j ^^^ 54) t))=>rSum256_any v' (64+m) _ (cat_xor_lt hkl (by decide) ht) W h (by omega)
 have hs2:=fun W v' (h:BytesIn W v' (64+32) (cat 64 (fun j=>kv j ^^^ 92) (padH kv 54 m t)))=>rSum256_any v' (64+32) _ (cat_xor_lt hkl (by decide) (padH_lt _ _ _ _)) W h (by decide)
 have hs1':∀ W v',BytesIn W v' (64+m) (cat 64 (fun j=>kv j ^^^ 54) t)→Calls Tryd.prog 56 #[v'] W fun e w'=>∃ v',e = .returned v'∧Own W.heap.size w' v' 32 (padH kv 54 m t)∧Below W.heap.size W w':=hs1
 have hs2':∀ W v',BytesIn W v' (64+32) (cat 64 (fun j=>kv j ^^^ 92) (padH kv 54 m t))→Calls Tryd.prog 56 #[v'] W fun e w'=>∃ v',e = .returned v'∧Own W.heap.size w' v' 32 (tagH kv m t)∧Below W.heap.size W w':=hs2
 obtain ⟨P,hP⟩:∃ P,P=padH kv 54 m t:=⟨_,rfl⟩
 obtain ⟨T,hT⟩:∃ T,T=tagH kv m t:=⟨_,rfl⟩
 rw [←hP] at hs1' hs2'
 rw [←hT] at hs2' ⊢
 clear hs1 hs2 hkv hv htv hP hT
 go_enter Tryd.func43,Tryd.ntmps43
 go_wp2_with (first
  | (go_at_call 57;refine hp1.mono ?_;clear hp1;rintro e w1 ⟨v1,rfl,own1,hb1⟩)
  | (at_builtin;refine wpList_append_bytes rfl (.tmp 7) (.tmp 8) rfl w.heap.size _ 64 _ rfl own1 xt m ct t rfl (hsrc _ hb1) hxn (by omega) hb1.size ?_;intro v2 w2 own2 hg2;have hb2:=Own.grown hb1 hg2 own1 (Nat.le_refl _) hb1.size;have hs:=hs1' w2 v2 own2.bytesIn;clear own1)
  | (go_at_call 56;refine hs.mono ?_;clear hs hs1' hsrc;rintro e w3 ⟨v3,rfl,own3,hb3⟩;have hb3':=hb2.trans (hb3.mono hb2.size);replace hp2:=hp2 w3 hb3';(obtain ⟨gs,cs,hvs,hgs,hgsl,hcs,hrs⟩:∃ g cap,v3 = .slice (some ⟨g,0,none⟩) 32 cap∧w2.heap.size≤g∧g<w3.heap.size∧32≤cap∧RowAt .u8 w3 g 0 32 P:=own3.form.resolve_left (fun h=>by omega));subst hvs;clear own3)
  | (go_at_call 57;refine hp2.mono ?_;clear hp2;rintro e w4 ⟨v4,rfl,own4,hb4⟩;have hb4':=hb3'.trans (hb4.mono hb3'.size))
  | (at_builtin;refine wpList_append_bytes rfl (.tmp 12) (.tmp 13) rfl w3.heap.size _ 64 _ rfl own4 (some ⟨gs,0,none⟩) 32 cs P rfl (.inr ⟨gs,0,rfl,fun j hj=>((hrs.below hb4 hgsl) j hj).1⟩) (fun h=>by cases h) (by omega) hb4.size ?_;intro v5 w5 own5 hg5;have hb5:=Own.grown hb4' hg5 own4 hb3'.size hb4'.size;have hs:=hs2' w5 v5 own5.bytesIn;clear own4)
  | (go_at_call 56;refine hs.mono ?_;clear hs hs2';rintro e w6 ⟨v6,rfl,own6,hb6⟩))
 go_ret
 exact ⟨v6,rfl,own6.lower hb5.size,hb5.trans (hb6.mono hb5.size)⟩
theorem keyB_zeros (z:Nat→Nat) (bs:Nat→Nat) (hz:∀ j,j<32→z j=0):keyB 32 z=keyB 0 bs:=by
 funext j
 unfold keyB
 simp only [show (32:Nat)≤64 by decide,if_true,Nat.zero_le,Nat.not_lt_zero,if_false]
 by_cases h:j<32
 · rw [if_pos h];exact hz j h
 · rw [if_neg h]
set_option maxRecDepth 20000 in
set_option maxHeartbeats 2000000 in
theorem rExtract_any (v tv:Value) (n m:Nat) (bs t:Nat→Nat) (hbs:∀ j,bs j<256) (ht:∀ j,t j<256) (hnb:n<140737488355000) (hm:m+64<140737488355000) (w:World) (hv:BytesIn w v n bs) (htv:BytesIn w tv m t) :
 Calls Tryd.prog 23 #[v,tv] w fun e w'=>∃ v',e = .returned v'∧Own w.heap.size w' v' 32 (tagH (keyB n bs) m t)∧Below w.heap.size w w':=by
 have hmk:=fun W=>make_bytes W 32 32 rfl (by decide)
 obtain ⟨xo,cx,rfl,_,_,_⟩:=hv.src
 by_cases hn:n=0
 · have hb:=(Below.refl w.heap.size w).alloc (Nat.le_refl _) (.cells (zb 32) 5)
   have h:=rHmac_any (.slice (some ⟨w.heap.size,0,none⟩) 32 32) tv 32 m (fun _=>0) t (fun _=>by decide) ht (by decide) hm _ (Own.made w.heap.size w 32 (by decide) (Nat.le_refl _)).bytesIn (htv.keep hb)
   rw [keyB_zeros (fun _=>0) bs (fun _ _=>rfl)] at h
   subst hn
   obtain ⟨T,hT⟩:∃ T,T=tagH (keyB 0 bs) m t:=⟨_,rfl⟩
   rw [←hT] at h ⊢
   clear hv htv hT
   go_enter Tryd.func23,Tryd.ntmps23
   go_wp2_with (go_at_call 43;refine h.mono ?_;clear h;rintro e w1 ⟨v1,rfl,own1,hb1⟩)
   go_ret
   exact ⟨v1,rfl,own1.lower (by simp),hb.trans (hb1.mono (by simp))⟩
 · have h:=rHmac_any (.slice xo n cx) tv n m bs t hbs ht hnb hm w hv htv
   obtain ⟨T,hT⟩:∃ T,T=tagH (keyB n bs) m t:=⟨_,rfl⟩
   rw [←hT] at h ⊢
   have hni:¬((n:Int)=0):=by omega
   clear hv htv hT
   go_enter Tryd.func23,Tryd.ntmps23
   go_wp2_with (go_at_call 43;refine h.mono ?_;clear h;rintro e w1 ⟨v1,rfl,own1,hb1⟩)
   go_ret
   exact ⟨v1,rfl,own1,hb1⟩
end Go.Proofs.YtkoedfmdhdikaaaDoor
namespace Go.Proofs.YtkoedfmdhdikaaaDoor
open Go.RowKit
theorem sliceToNil (W:World):(Instr.sliceAt 24 (.slice none 0 0) none (some (.int .i64 0)) none).run Tryd.prog W = .ok (.slice none 0 0) W:=by kernel_rfl
def allE (kv:Nat→Nat) (m:Nat) (info:Nat→Nat):Nat→Nat:=fun q=>tE kv m info (q / 32+1) (q%32)
set_option maxRecDepth 20000 in
set_option maxHeartbeats 2000000 in
theorem rExpand_any (v1 v2:Value) (n1 n2:Nat) (ks info:Nat→Nat) (hks:∀ j,ks j<256) (hinfo:∀ j,info j<256) (hn1:n1<140737488355000) (hn2:n2+97<140737488355000) (w:World) (hk:BytesIn w v1 n1 ks) (hi:BytesIn w v2 n2 info) (N:Nat) (hN:N≤8160) :
 Calls Tryd.prog 41 #[v1,v2,.int .i64 N] w fun e w'=>∃ v',e = .returned (.tuple #[v',.int .i64 0])∧BytesIn w' v' N (outF (keyB n1 ks) n2 info N)∧Below w.heap.size w w':=by
 obtain ⟨xi,ci,rfl,hxi,-,hsi⟩:=hi.src
 have hh:=fun W tv m t (ht:∀ j,t j<256) (hm:m+64<140737488355000) (h:Below w.heap.size w W) (htv:BytesIn W tv m t)=>rHmac_any v1 tv n1 m ks t hks ht hn1 hm W (hk.keep h) htv
 obtain ⟨kv,hkv⟩:∃ kv,kv=keyB n1 ks:=⟨_,rfl⟩
 rw [←hkv] at hh ⊢
 have hlo:¬((N:Int)<0):=by omega
 have hhi:¬(8160<(N:Int)):=by omega
 clear hk hi hkv
 go_enter Tryd.func41,Tryd.ntmps41
 go_wp2
 go_loopw [8,9,10] (fun o t i wr=>∃ k tl A:Nat,Hid (A=32*k)∧Hid (tl=if k=0 then 0 else 32)∧A<N+32∧i = .int .i64 ((k:Int)+1)∧(∃ xo co,o = .slice xo A co∧Own w.heap.size wr (.slice xo A co) A (allE kv n2 info))∧(∃ xt ct,t = .slice xt tl ct∧BytesIn wr (.slice xt tl ct) tl (tE kv n2 info k))∧Below w.heap.size w wr) (fun o _ _ _=>N+32 - lenV o)
 case atStart=>exact ⟨0,0,0,(rfl:0=32*0),(rfl:0=if 0=0 then 0 else 32),by omega,by go_num,⟨none,0,rfl,Own.nil _ _ _⟩,⟨none,0,rfl,.inl ⟨none,rfl,rfl⟩⟩,Below.refl _ _⟩
 case round =>
  obtain ⟨k,tl,A,HA,Htl,hA,rfl,⟨xo,co,rfl,own⟩,⟨xt,ct,rfl,hbt⟩,hb⟩:=hrel
  have htl:tl≤32:=by rw [Htl.out];split <;> omega
  by_cases hlt:A<N
  · have hk255:k+1<256:=by have:=HA.out;omega
    obtain ⟨F,hF⟩:∃ F,F=cat tl (tE kv n2 info k) (cat n2 info (fun _=>k+1)):=⟨_,rfl⟩
    have hFl:∀ j,F j<256:=by rw [hF];exact cat_lt (tE_lt _ _ _ _) (cat_lt hinfo (fun _=>hk255))
    have hFc:∀ j,j<tl+n2→cat tl (tE kv n2 info k) info j=F j:=fun j hj=>by
     rw [hF];unfold cat
     by_cases e:j<tl
     · rw [if_pos e,if_pos e]
     · rw [if_neg e,if_neg e,if_pos (by omega)]
    have HY:Hid (F (tl+n2)=k+1):=(by rw [hF,cat_right];unfold cat;simp:F (tl+n2)=k+1)
    have hT:tagH kv (tl+n2+1) F=tE kv n2 info (k+1):=by rw [hF,Htl.out];rfl
    have hh':∀ W v',Below w.heap.size w W→BytesIn W v' (tl+n2+1) F→Calls Tryd.prog 43 #[v1,v'] W fun e w'=>∃ v',e = .returned v'∧Own W.heap.size w' v' 32 (tE kv n2 info (k+1))∧Below W.heap.size W w':=fun W v' hW hv'=>by
     have:=hh W v' _ F hFl (by omega) hW hv'
     rw [hT] at this
     exact this
    obtain ⟨xt',ct',hte,hxt,-,hst⟩:=hbt.src
    cases hte
    have hst':=hst _ ((Below.refl wr.heap.size wr).alloc (Nat.le_refl _) (.cells #[] 5))
    have hAi:(A:Int)<N:=by omega
    obtain ⟨Tk,hTk⟩:∃ Tk,Tk=tE kv n2 info k:=⟨_,rfl⟩
    rw [←hTk] at hst' hFc
    have hwb:((k:Int)+1)%256=(k:Int)+1:=by omega
    clear hF hT hh hbt hst hTk
    go_wp2_with (first
     | (at_builtin;refine wpList_append_empty rfl (.tmp 24) (.tmp 25) rfl wr.heap.size Tk wr.heap.size rfl rfl xt tl ct rfl hst' hxt (by omega) (Nat.le_refl _) ?_;intro v3 w3 own3 hb3)
     | (at_builtin;refine wpList_append_bytes rfl (.tmp 26) (.tmp 27) rfl wr.heap.size _ tl _ rfl own3 xi n2 ci info rfl (hsi _ (hb.trans (hb3.mono hb.size))) hxi (by omega) hb3.size ?_;intro v4 w4 own4 hg4;have hb4:=Own.grown hb3 hg4 own3 (Nat.le_refl _) hb3.size;have own4':=own4.congr hFc;clear own3 own4)
     | (at_builtin;refine wpList_append_next rfl (.tmp 28) (.tmp 31) rfl wr.heap.size _ (tl+n2) F _ rfl own4' rfl (by rw [HY.out];simp;try omega) (by omega) hb4.size ?_;intro v5 w5 own5 hb5;have hb5':=hb4.trans hb5;have hw5:=hb.trans (hb5'.mono hb.size);have hh5:=hh' w5 v5 hw5 own5.bytesIn)
     | (go_at_call 43;refine hh5.mono ?_;clear hh5 hh';rintro e w6 ⟨v6,rfl,own6,hb6⟩;(obtain ⟨g6,c6,hv6,hg6,hgl6,hc6,hr6⟩:∃ g cap,v6 = .slice (some ⟨g,0,none⟩) 32 cap∧w5.heap.size≤g∧g<w6.heap.size∧32≤cap∧RowAt .u8 w6 g 0 32 (tE kv n2 info (k+1)):=own6.form.resolve_left (fun h=>by omega));subst hv6;have hb6':=hb5'.trans (hb6.mono hb5'.size);have own':=own.below hb6';have hw6:=hb.trans (hb6'.mono hb.size))
     | (at_builtin;refine wpList_append_bytes rfl (.tmp 34) (.tmp 35) rfl w.heap.size _ A _ rfl own' (some ⟨g6,0,none⟩) 32 c6 (tE kv n2 info (k+1)) rfl (.inr ⟨g6,0,rfl,fun j hj=>(hr6 j hj).1⟩) (fun h=>by cases h) (by omega) hw6.size ?_;intro v7 w7 own7 hg7;have hb7:=Own.grown hw6 hg7 own' (Nat.le_refl _) hw6.size))
    have hne:some g6≠(Value.slice xo A co).ownBlock:=fun h=>by
     have h1:=(World.ownsRow.lt own g6 h.symm).2
     have h2:=hb5'.size
     omega
    have hbt7:BytesIn w7 (.slice (some ⟨g6,0,none⟩) 32 c6) 32 (tE kv n2 info (k+1)) := .inr ⟨g6,0,c6,rfl,Nat.lt_of_lt_of_le hgl6 hg7.size,hc6,fun j hj=>hg7.cell (hr6 j hj).1 hne⟩
    have own8:Own w.heap.size w7 v7 (A+32) (allE kv n2 info):=own7.congr (fun q hq=>by
     unfold cat
     by_cases e:q<A
     · rw [if_pos e]
     · rw [if_neg e]
       unfold allE
       have:=HA.out
       rw [show q / 32=k by omega,show q%32=q - A by omega])
    obtain ⟨x7,c7,hv7⟩:∃ x c,v7 = .slice x (A+32) c:=by
     rcases own8.form with ⟨_,h0⟩ | ⟨g,c,h,_⟩
     · omega
     · exact ⟨_,c,h⟩
    subst hv7
    clear own own' own7 own5 own4' hr6 own6
    go_wp2
    go_roundw
    case rel =>
     exact ⟨k+1,32,A+32,(by have:=HA.out;omega:A+32=32*(k+1)),(by rw [if_neg (Nat.succ_ne_zero k)]:32=if k+1=0 then 0 else 32),by omega,by go_num,⟨x7,c7,rfl,own8⟩,⟨_,c6,rfl,hbt7⟩,hb7⟩
    case measure=>show N+32 - (A+32)<N+32 - A;omega
  · have hNA:N≤A:=by omega
    have hAi:¬((A:Int)<N):=by omega
    have hcg:∀ j,j<N→allE kv n2 info j=outF kv n2 info N j:=fun j hj=>by unfold allE outF;rw [if_pos hj]
    rcases own.form with ⟨hv,h0⟩ | ⟨g,c,hv,_,hgl,hcap,hr⟩
    · cases hv
      have hN0:N=0:=by omega
      subst hN0
      have hsl:=fun W=>sliceToNil W
      clear own hh hbt hcg hsi
      go_wp2
      go_ret2
      exact ⟨_,rfl,.inl ⟨none,rfl,rfl⟩,hb⟩
    · injection hv with hx1 _ hx2
      subst hx1;subst hx2
      have hsl:=fun W=>sliceTo W g A co N (by omega)
      have hNc:(N:Int)≤co:=by omega
      have hbf:BytesIn wr (.slice (some ⟨g,0,none⟩) N co) N (outF kv n2 info N) := .inr ⟨g,0,co,rfl,hgl,by omega,fun j hj=>by rw [(hr j (by omega)).1,hcg j hj]⟩
      clear own hh hbt hr hcg hsi
      go_wp2
      go_ret2
      exact ⟨_,rfl,hbf,hb⟩
end Go.Proofs.YtkoedfmdhdikaaaDoor
namespace Go.Proofs.YtkoedfmdhdikaaaDoor
open Go.RowKit
theorem extract_any (v tv:Value) (n m:Nat) (bs t:Nat→Nat) (hbs:∀ j,bs j<256) (ht:∀ j,t j<256) (hnb:n<2305843009213693000) (hm:m<2305843009213693000) (w:World) (hT:HTab w cubeK squareK) (hv:BytesIn w v n bs) (htv:BytesIn w tv m t) :
 Calls Tryd.prog 18 #[v,tv] w fun e w'=>∃ g,e = .returned (.slice (some ⟨g,0,none⟩) 32 32)∧w.heap.size≤g∧RowAt .u8 w' g 0 32 (tagH (keyB n bs) m t)∧Below w.heap.size w w':=by
 have c1:=hmac_any v tv n m bs t hbs ht hnb hm w hT hv htv
 obtain ⟨X,hX⟩:∃ X,X=tagH (keyB n bs) m t:=⟨_,rfl⟩
 rw [←hX] at c1 ⊢
 clear hX hT hv htv
 go_enter Tryd.func18,Tryd.ntmps18
 go_wp2_with (go_at_call 35;refine c1.mono ?_;clear c1;rintro e w1 ⟨g,rfl,hg,hr,hb⟩)
 go_ret
 exact ⟨g,rfl,hg,hr,hb⟩
end Go.Proofs.YtkoedfmdhdikaaaDoor
