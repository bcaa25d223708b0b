/- What the proof stands on: HRefSum, HRefHmac. -/
import Derived.Test.YtibdhadbflfdpaaGreatDoorHBlockM
import Derived.Test.YtibdhadbflfdpaaGreatDoorHRefBlockM
namespace Go.Proofs.YtibdhadbflfdpaaGreatDoor
open Nat renaming zero_add → J0
open Go renaming block_lt_of_cell → J5
open Go.RowKit
set_option maxRecDepth 20000 in
set_option maxHeartbeats 4000000 in
theorem xO (g0 g1 g2 g3:Nat) (v:Value) (n:Nat) (bs:Nat→Nat) (hbs:∀ j,bs j<256) (w:World) (hL:f9 w g0 g1 g2 g3) (hv:ae w v n bs) (hn:n<140737488355000) :
 Calls Tryz.prog 168 #[(.agg #[.int .i64 64,.int .i64 128,.int .i64 80,.slice (some ⟨g0,0,none⟩) 3 3,.slice (some ⟨g1,0,none⟩) 3 3,.slice (some ⟨g2,0,none⟩) 3 3,.slice (some ⟨g3,0,none⟩) 3 3]),v] w fun e w'=>∃ v',e = .returned v'∧bx w.heap.size w' v' 64 (eD 64 (du aA aS aC n bs))∧Below w.heap.size w w':=by
 have hpad:=fun W' (h:Below w.heap.size w W')=>sW g0 g1 g2 g3 v n bs W' (hv.keep h) hn
 have hzb:=lU w g0 g1 g2 g3
 obtain ⟨F,hF⟩:∃ F,F=bu n bs (dk aA n):=⟨_,rfl⟩
 have hFl:∀ j,F j<256:=by rw [hF];exact il hbs (kJ _ _)
 obtain ⟨T,hT,hT0⟩:=xF n
 have hTb:T*128<140737488355328:=by have:=qM n;omega
 have HS:Hid (du aA aS aC n bs=aX aA aS (aL aA aC) F T):=by
  show du aA aS aC n bs=_;unfold du;rw [←hF,hT,show T*128 / (2*Ru.m aA)=T from Nat.mul_div_cancel T (by decide)]
 rw [←hF,hT] at hpad;clear hF hv;go_enter Tryz.func168,Tryz.ntmps168
 go_wp2_with (first
  | (go_at_call 213;refine (pP _).mono ?_;rintro e w1 ⟨gk,rfl,hgk,hrk,hb1⟩;simp only [World.size_alloc] at hgk hb1)
  | (go_at_call 214;refine (AQ _).mono ?_;rintro e w2 ⟨gq,rfl,hgq,hrq,hb2⟩))
 have hs1:=hb1.size;have hs2:=hb2.size;simp only [World.size_alloc] at hs1
 have hZ2:ee w2 w.heap.size g0 g1 g2 g3:=by
  have hc:∀ j,w2.cell? ⟨w.heap.size,j,none⟩=(w.alloc (.cells #[.int .i64 64,.int .i64 128,.int .i64 80,.slice (some ⟨g0,0,none⟩) 3 3,.slice (some ⟨g1,0,none⟩) 3 3,.slice (some ⟨g2,0,none⟩) 3 3,.slice (some ⟨g3,0,none⟩) 3 3] 191)).cell? ⟨w.heap.size,j,none⟩:=fun j=>(hb2.cell (p:=⟨w.heap.size,j,none⟩) (by show w.heap.size<_;omega)).trans (hb1.cell (p:=⟨w.heap.size,j,none⟩) (Nat.lt_succ_self _))
  unfold ee at *;simp only [hc];exact hzb
 have hgk1:gk<w1.heap.size:=J5 (hrk 0 (by decide)).1;have hgq2:gq<w2.heap.size:=J5 (hrq 0 (by decide)).1;have hrk2:ah .u64 w2 gk 0 80 aS:=hrk.below hb2 hgk1;have hw2:Below w.heap.size w w2:=((Below.refl _ _).alloc (Nat.le_refl _) _).trans ((hb1.mono (by omega)).trans (hb2.mono (by omega)));have hL2:=hL.below hw2
 have hzl:w.heap.size<w2.heap.size:=by omega
 have hgk2:gk<w2.heap.size:=by omega
 clear hrk hb1 hb2 hs1 hs2 hzb hgk1 hgk hgq hL
 obtain ⟨s0,hs0⟩:∃ s0,s0=aL aA aC:=⟨_,rfl⟩
 have hsl:s0.lt (2 ^ 64):=by rw [hs0];exact gP aA aC (by decide) oW
 have hsq:∀ k,k<8→s0.at k=aC k / 2 ^ (64 - 64):=fun k hk=>by
  rw [hs0]
  match k,hk with
  | 0,_=>rfl
  | 1,_=>rfl
  | 2,_=>rfl
  | 3,_=>rfl
  | 4,_=>rfl
  | 5,_=>rfl
  | 6,_=>rfl
  | 7,_=>rfl
 rw [←hs0] at HS;clear hs0;go_loopw [7,8] (fun v i wr=>∃ k:Nat,k≤8∧i = .int .i64 k∧wr.ownsRow w2.heap.size 71 1 v k (au .u64 k s0.at)∧Below w2.heap.size w2 wr) (fun _ i _=>8 - (intOf i).toNat)
 case atStart=>exact ⟨0,Nat.zero_le _,rfl,World.ownsRow_nil _ _ _ _,Below.refl _ _⟩
 case round =>
  obtain ⟨k,hk,rfl,hown,hbel⟩:=hrel;have hsr:=hbel.size
  by_cases hlt:k<8
  · have hZ:=hZ2.below hbel
    obtain ⟨z0,z1,z2,z3,z4,z5,z6⟩:=hZ
    have rq:wr.cell? ⟨gq,k,none⟩=some (.int .u64 (aC k)):=by
     have:=(hrq k hlt).1;rw [J0] at this;exact (hbel.cell (p:=⟨gq,k,none⟩) hgq2).trans this
    obtain ⟨qk,hqk⟩:∃ qk,qk=aC k:=⟨_,rfl⟩
    have HY:Hid (s0.at k=qk / 2 ^ (64 - 64)):=(by rw [hqk];exact hsq k hlt:s0.at k=qk / 2 ^ (64 - 64))
    rw [←hqk] at rq;clear hqk hpad hFl hrk2 hrq hL2 hZ2
    have hS:∀ w':World,Below w2.heap.size wr w'→∀ b o,b<w2.heap.size→w'.cell? ⟨b,o,none⟩=wr.cell? ⟨b,o,none⟩:=fun w' h b o hb=>h.cell (p:=⟨b,o,none⟩) hb
    have hbd:∀ m,Below wr.heap.size wr (wr.drewN m):=fun m=>bU (Below.refl _ _) m
    have hb0:Below w2.heap.size wr wr.drew:=(Below.refl _ _).drew
    have hki:(0:Int)≤(k:Int)∧(k:Int)<8:=by omega
    have hown0:=ji hown ((Below.refl _ _).drew:Below wr.heap.size wr wr.drew);have hsz0:w2.heap.size≤wr.drew.heap.size:=hsr
    have h00:min (IntKind.u64.wrap (IntKind.i64.wrap 0)).toNat 64=0:=by rfl
    have hy:((qk:Int) / 2 ^ min (IntKind.u64.wrap (IntKind.i64.wrap 0)).toNat 64:Int)=(s0.at k:Int):=by
     try rw [h00]
     rw [HY.out];simp
    clear h00;have HYY:Hid (((qk:Int) / 2 ^ min (IntKind.u64.wrap (IntKind.i64.wrap 0)).toNat 64:Int)=(s0.at k:Int)):=hy;clear hy;go_wp2;go_region_held3 (fun w'=>Below w2.heap.size wr w') (first | assumption | exact Below.alloc (by assumption) (by assumption) _) (first | (refine j6 rfl (.tmp 20) (.tmp 30) rfl w2.heap.size _ k s0.at _ rfl hown0 _ rfl rfl HYY.out (by omega) hsz0 ?_;intro v' w' hown1 hbx;have hbn:Below w2.heap.size wr w':=hb0.trans hbx));clear hS hb0 hbd z0 z1 z2 z3 z4 z5 z6 rq;go_wp2;go_roundw
    case rel =>
     first
      | exact ⟨k+1,by omega,by go_num,hown1,hbel.trans hbn⟩
      | (repeat apply Exists.intro
         refine ⟨?_,rfl⟩
         exact ⟨k+1,by omega,by go_num,hown1,hbel.trans hbn⟩)
    case measure=>simp [intOf];omega
  · have hke:k=8:=by omega
    rw [hke] at hown;clear hke;obtain ⟨gs,cs,hu7,hgs,hgsl⟩:=hown.form (by decide);subst hu7
    have hrs:ah .u64 wr gs 0 8 s0.at:=fun j hj=>by
     rw [J0];exact ⟨by rw [hown.cellAt j (by omega),bo _ _ _ j hj],hown.frozenAt j⟩
    have hwr:Below w.heap.size w wr:=hw2.trans (hbel.mono (by omega));have hpad':=hpad wr hwr;have hZ:=hZ2.below hbel;obtain ⟨z0,z1,z2,z3,z4,z5,z6⟩:=hZ;clear hpad hrq hsq hown;go_wp2_with (go_at_call 215;refine hpad'.mono ?_;rintro e w4 ⟨vp,rfl,ownp,hb4⟩);clear z0 z1 z2 z3 z4 z5 z6 hpad'
    rcases ownp.form with ⟨-,h0⟩ | ⟨gp,cp,hvp,hgp,hgpl,hcp,hrp⟩
    · omega
    subst hvp
    obtain ⟨N,hNe⟩:∃ N,N=T*128:=⟨_,rfl⟩
    rw [←hNe] at hcp hrp hTb ⊢;have hs4:=hb4.size;have hw4:Below w2.heap.size w2 w4:=hbel.trans (hb4.mono hsr);have hww:Below w.heap.size w w4:=hw2.trans (hw4.mono (by omega));have hrs4:ah .u64 w4 gs 0 8 s0.at:=hrs.below hb4 hgsl;have hrk4:ah .u64 w4 gk 0 80 aS:=hrk2.below hw4 hgk2;have hL4:=hL2.below hw4;have hZ4:=hZ2.below hw4
    have hk4:gk<w4.heap.size:=by omega
    have hz4:w.heap.size<w4.heap.size:=by omega
    have hgs4:w.heap.size≤gs:=by omega
    have HN:Hid (N=T*128):=hNe;clear ownp hb4 hw4 hrs hrk2 hL2 hZ2 hbel hs4 hsr hwr hk hlt hNe hw2 hgq2 hgk2 hzl hT hn;go_loopw [7,10] (fun v i wq=>∃ t P g c:Nat,t≤T∧Hid (P=t*128)∧i = .int .i64 P∧v = .slice (some ⟨g,0,none⟩) 8 c∧ah .u64 wq g 0 8 (aX aA aS s0 F t).at∧w.heap.size≤g∧Below w4.heap.size w4 wq) (fun _ i _=>N - (intOf i).toNat)
    case atStart=>exact ⟨0,0,gs,cs,Nat.zero_le _,(by omega:0=0*128),rfl,rfl,hrs4,hgs4,Below.refl _ _⟩
    case round =>
     clear hrs4;obtain ⟨t,P,g,c,ht,HP,rfl,rfl,hrow,hgw,hbq⟩:=hrel;have hsq4:=hbq.size;have hgl:g<wr.heap.size:=J5 (hrow 0 (by decide)).1;have hZ:=hZ4.below hbq
     by_cases hlt:t<T
     · have hPN:P+128≤N:=by have:=HP.out;have:=HN.out;omega
       have hPi:(P:Int)<N:=by omega
       have hblk:∀ W':World,Below wr.heap.size wr W'→Calls Tryz.prog 216 #[(.agg #[.int .i64 64,.int .i64 128,.int .i64 80,.slice (some ⟨g0,0,none⟩) 3 3,.slice (some ⟨g1,0,none⟩) 3 3,.slice (some ⟨g2,0,none⟩) 3 3,.slice (some ⟨g3,0,none⟩) 3 3]),.slice (some ⟨g,0,none⟩) 8 c,.slice (some ⟨gk,0,none⟩) 80 80,.slice (some ⟨gp,P,none⟩) 128 (cp - P)] W' fun e w'=>∃ g' c',e = .returned (.slice (some ⟨g',0,none⟩) 8 c')∧W'.heap.size≤g'∧ah .u64 w' g' 0 8 (aX aA aS s0 F (t+1)).at∧Below W'.heap.size W' w':=fun W' h=>by
        have hl:=hbq.trans (h.mono hsq4)
        have hh:=tj aS g0 g1 g2 g3 g c gk 80 gp P (cp - P) (aX aA aS s0 F t) (gF (r:=aA) hsl t) (fun j=>F (P+j)) (fun j=>hFl _) W' (hL4.below hl)
         (fun j hj=>by have:=((hrow.below h hgl) j hj).1;rwa [J0] at this)
         (fun j hj=>by have:=((hrk4.below hl hk4) j hj).1;rwa [J0] at this)
         (fun j hj=>by have:=((hrp.below hl hgpl) (P+j) (by omega)).1;rwa [J0] at this)
        rw [vu _ _ (fun j=>hFl _)] at hh
        have e:aU aA aS (fun j=>F (P+j)) (aX aA aS s0 F t)=aX aA aS s0 F (t+1):=by
         rw [HP.out];rfl
        rw [e] at hh;exact hh
       have hsm:∀ W:World,(Instr.sliceAt 22 (.slice (some ⟨gp,0,none⟩) N cp) (some (.int .i64 P)) (some (.int .i64 ((P:Int)+128))) none).run Tryz.prog W = .ok (.slice (some ⟨gp,P,none⟩) 128 (cp - P)) W:=fun W=>by
        have h:=DF W gp 0 N cp P 128 (by decide) (by omega);rw [J0] at h;exact h
       have hw64:IntKind.i64.wrap ((P:Int)+128)=(P:Int)+128:=by simp only [IntKind.wrap_i64];omega
       have b1:(0:Int)≤(P:Int):=by omega
       have b2:(P:Int)≤(P:Int)+128:=by omega
       have b3:(P:Int)+128≤(cp:Int):=by omega
       obtain ⟨z0,z1,z2,z3,z4,z5,z6⟩:=hZ
       have hS:∀ w':World,Below wr.heap.size wr w'→∀ b o,b<wr.heap.size→w'.cell? ⟨b,o,none⟩=wr.cell? ⟨b,o,none⟩:=fun w' h b o hb=>h.cell (p:=⟨b,o,none⟩) hb
       have hb0:Below wr.heap.size wr wr.drew:=(Below.refl _ _).drew
       have m0:w.heap.size<wr.heap.size:=by omega
       have hPb:(P:Int)+128<140737488355328:=by omega
       clear hrow hL4 hZ4 hrk4 hrp hFl hsl;go_wp2
       go_region_held3 (fun w'=>Below wr.heap.size wr w') (first | assumption) (first
        | (go_at_call 216;refine (hblk _ (by assumption)).mono ?_;rintro e w' ⟨g',c',rfl,hg',hrow',hb⟩;have hbn:=aa (W:=wr) (by assumption) hb))
       have zz:=(hbn.cell (p:=⟨w.heap.size,1,none⟩) m0).trans z1;clear hblk hS hb0 z0 z1 z2 z3 z4 z5 z6 hsm b1 b2 b3 hw64;go_wp2;go_roundw
       case rel =>
        have hP':P+128=(t+1)*128:=by have:=HP.out;omega
        have hg2:w.heap.size≤g':=by simp only [World.size_drew] at hg';omega
        exact ⟨t+1,P+128,g',c',by omega,hP',by go_num,rfl,hrow',hg2,hbq.trans (hbn.mono hsq4)⟩
       case measure=>simp [intOf];omega
     · have hte:t=T:=by omega
       have hPN:P=N:=by have:=HP.out;have:=HN.out;rw [hte] at *;omega
       rw [hte] at hrow
       obtain ⟨x,hxe⟩:∃ x,x=aX aA aS s0 F T:=⟨_,rfl⟩
       have HX:Hid (x=aX aA aS s0 F T):=hxe;rw [←hxe] at hrow;clear hxe hte hL4 hZ4 hrk4 hrp hFl hsl;obtain ⟨z0,z1,z2,z3,z4,z5,z6⟩:=id hZ
       obtain ⟨Wq,hWq⟩:∃ W,W=wr:=⟨_,rfl⟩
       subst hWq;go_wp2;clear z0 z1 z2 z3 z4 z5 z6;go_loopw [11,12] (fun o i wx=>∃ k:Nat,k≤8∧i = .int .i64 k∧bx Wq.heap.size wx o (k*8) (eD 64 x)∧Below Wq.heap.size Wq wx) (fun _ i _=>8 - (intOf i).toNat)
       case atStart=>exact ⟨0,Nat.zero_le _,rfl,(bx.nil _ _ _).start (by omega),Below.refl _ _⟩
       case round =>
        clear hPN hlt;obtain ⟨k,hk,rfl,own,hb⟩:=hrel;have hsx:=hb.size
        by_cases hlt:k<8
        · obtain ⟨z0,z1,z2,z3,z4,z5,z6⟩:=hZ.below hb
          go_wp2;clear z0 z1 z2 z3 z4 z5 z6;have hd:decide ((k:Int)<8)=true:=decide_eq_true (by omega);rw [hd];clear hd;go_loopw [11,13] (fun o m wy=>∃ t:Nat,t≤8∧m = .int .i64 (64 - 8 - 8*(t:Int))∧bx Wq.heap.size wy o (k*8+t) (eD 64 x)∧Below Wq.heap.size Wq wy) (fun o _ _=>k*8+8 - gV o)
          case atStart=>exact ⟨0,Nat.zero_le _,by go_num,own,hb⟩
          case round =>
           clear own hb hsx;obtain ⟨q,hq,rfl,own,hb⟩:=hrel;have hsx:=hb.size
           have hc:wr.cell? ⟨g,k,none⟩=some (.int .u64 (x.at k)):=by have:=((hrow.below hb hgl) k hlt).1;rwa [J0] at this
           by_cases hlq:q<8
           · obtain ⟨m,hm⟩:∃ m:Nat,m=64 - 8 - 8*q:=⟨_,rfl⟩
             have hmi:(64 - 8 - 8*(q:Int))=(m:Int):=by omega
             have hF:Hid (((x.at k / 2 ^ m%256:Nat):Int)=(eD 64 x (k*8+q):Int)):=by
              show ((x.at k / 2 ^ m%256:Nat):Int)=(eD 64 x (k*8+q):Int);unfold eD;rw [show (k*8+q) / (64 / 8)=k by omega,show 64 - 8 - (k*8+q)%(64 / 8)*8=m by omega]
             have hlen:Hid (gV u11=k*8+q):=by
              show gV u11=k*8+q
              rcases own.form with ⟨rfl,h0⟩ | ⟨_,_,rfl,_⟩
              · rw [h0];rfl
              · rfl
             have HM:Hid (m=64 - 8 - 8*q):=hm
             have hml:m<64:=by omega
             rw [hmi];clear hm hmi;go_wp2_with (at_builtin;refine bq rfl (.tmp 65) (.tmp 74) rfl Wq.heap.size _ (k*8+q) (eD 64 x) _ rfl own rfl (by rw [←hF.out];simp) (by omega) hsx ?_;intro v3 w3 own3 hb3)
             have hl3:gV v3=k*8+q+1:=by
              rcases own3.form with ⟨_,h0⟩ | ⟨_,_,rfl,_⟩
              · omega
              · rfl
             go_roundw
             case rel=>exact ⟨q+1,by omega,by have:=HM.out;go_num,own3.start (by omega),hb.trans hb3⟩
             case measure=>have:=hlen.out;omega
           · have hqe:q=8:=by omega
             go_wp2;go_roundw
             case rel=>exact ⟨k+1,by omega,by go_num,own.start (by omega),hb⟩
             case measure=>simp [intOf];omega
        · have hke:k=8:=by omega
          go_wp2;go_ret;rw [HS.out,←HX.out];exact ⟨_,rfl,iO (own.start (by omega)) (by omega),hww.trans ((hbq.trans (hb.mono (by omega))).mono (by omega))⟩
set_option maxHeartbeats 1000000 in
theorem tT (v:Value) (n:Nat) (bs:Nat→Nat) (hbs:∀ j,bs j<256) (w:World) (hv:ae w v n bs) (hn:n<140737488355000) :
 Calls Tryz.prog 103 #[v] w fun e w'=>∃ v',e = .returned v'∧bx w.heap.size w' v' 64 (eD 64 (du aA aS aC n bs))∧Below w.heap.size w w':=by
 have hk:∀ (w1:World) (g0 g1 g2 g3:Nat),f9 w1 g0 g1 g2 g3→Below w.heap.size w w1→Calls Tryz.prog 168 #[(.agg #[.int .i64 64,.int .i64 128,.int .i64 80,.slice (some ⟨g0,0,none⟩) 3 3,.slice (some ⟨g1,0,none⟩) 3 3,.slice (some ⟨g2,0,none⟩) 3 3,.slice (some ⟨g3,0,none⟩) 3 3]),v] (w1.alloc (.cells #[.int .i64 64,.int .i64 128,.int .i64 80,.slice (some ⟨g0,0,none⟩) 3 3,.slice (some ⟨g1,0,none⟩) 3 3,.slice (some ⟨g2,0,none⟩) 3 3,.slice (some ⟨g3,0,none⟩) 3 3] 191)) fun e w'=>∃ v',e = .returned v'∧bx w.heap.size w' v' 64 (eD 64 (du aA aS aC n bs))∧Below w.heap.size w w':=fun w1 g0 g1 g2 g3 hL hb=>by
  have hb2:=hb.alloc hb.size (.cells #[.int .i64 64,.int .i64 128,.int .i64 80,.slice (some ⟨g0,0,none⟩) 3 3,.slice (some ⟨g1,0,none⟩) 3 3,.slice (some ⟨g2,0,none⟩) 3 3,.slice (some ⟨g3,0,none⟩) 3 3] 191);refine (xO g0 g1 g2 g3 v n bs hbs (w1.alloc (.cells #[.int .i64 64,.int .i64 128,.int .i64 80,.slice (some ⟨g0,0,none⟩) 3 3,.slice (some ⟨g1,0,none⟩) 3 3,.slice (some ⟨g2,0,none⟩) 3 3,.slice (some ⟨g3,0,none⟩) 3 3] 191)) (hL.below ((Below.refl _ _).alloc (Nat.le_refl _) _)) (hv.keep hb2) hn).mono ?_;rintro e w' ⟨v',rfl,ho,hb'⟩;exact ⟨v',rfl,iO ho hb2.size,hb2.trans (hb'.mono hb2.size)⟩
 clear hv;go_enter Tryz.func103,Tryz.ntmps103
 go_wp2_with (first
  | (go_at_call 167;refine (zp _).mono ?_;rintro e w1 ⟨g0,g1,g2,g3,rfl,hL,hb1⟩;replace hk:=hk w1 g0 g1 g2 g3 hL hb1)
  | (go_at_call 168;refine hk.mono ?_;rintro e w' ⟨v',rfl,ho,hb'⟩))
 go_ret;exact ⟨v',rfl,ho,hb'⟩
theorem bx.stored {base:Nat} {w:World} {g n cap:Nat} {X:Nat→Nat} (h:bx base w (.slice (some ⟨g,0,none⟩) n cap) n X) (i:Nat) (v:Int) (u:Nat) (hu:v=(u:Int)):bx base (w.setCell ⟨g,i,none⟩ (.int .u8 v)) (.slice (some ⟨g,0,none⟩) n cap) n (bK X i u):=by
 have h1:=World.ownsRow.stored h i (.int .u8 v);unfold bx
 have e:(au .u8 n X).set i (.int .u8 v)=au .u8 n (bK X i u):=by
  apply List.ext_getElem?;intro j
  by_cases hj:j<n
  · rw [bo _ _ _ j hj,List.getElem?_set]
    by_cases e:i=j
    · subst e;simp [ak,hj,bK,hu]
    · simp only [e,if_false]
      rw [bo _ _ _ j hj];simp [bK,show ¬j=i from fun h=>e h.symm]
  · rw [List.getElem?_eq_none (by rw [List.length_set,ak];omega),List.getElem?_eq_none (by rw [ak];omega)]
 rw [←e];exact h1.1
theorem D5 (n:Nat):(zb n).toList=au .u8 n (fun _=>0):=by
 apply List.ext_getElem?;intro j
 by_cases hj:j<n
 · rw [Array.getElem?_toList,fO n j hj,bo _ _ _ j hj];rfl
 · rw [List.getElem?_eq_none (by simp [zb];omega),List.getElem?_eq_none (by rw [ak];omega)]
theorem bx.made (base:Nat) (w:World) (n:Nat) (hn:n≤1000000) (hb:base≤w.heap.size):bx base (w.alloc (.cells (zb n) 5)) (.slice (some ⟨w.heap.size,0,none⟩) n n) n (fun _=>0):=by
 have h:=World.ownsRow_lit (base:=base) (e:=5) (size:=1) w (zb n) n hb (by unfold maxLen;omega) (by simp [zb]);rw [D5] at h;exact h
theorem bx.bytesIn {base:Nat} {w:World} {v:Value} {n:Nat} {X:Nat→Nat} (h:bx base w v n X):ae w v n X:=by
 rcases h.form with ⟨rfl,h0⟩ | ⟨g,cap,rfl,_,hg,hc,hr⟩
 · exact .inl ⟨none,rfl,h0⟩
 · exact .inr ⟨g,0,cap,rfl,hg,hc,fun j hj=>(hr j hj).1⟩
theorem bx.lower {base base':Nat} {w:World} {v:Value} {n:Nat} {X:Nat→Nat} (h:bx base w v n X) (hb:base'≤base):bx base' w v n X:=World.ownsRow.mono h hb
end Go.Proofs.YtibdhadbflfdpaaGreatDoor
