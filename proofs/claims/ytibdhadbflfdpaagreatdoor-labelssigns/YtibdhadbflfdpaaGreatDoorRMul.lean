/- The reference of layer 4: what MulAdd does in the model. -/
import Derived.Test.YtibdhadbflfdpaaGreatDoorRIntsM
namespace Go.Proofs.YtibdhadbflfdpaaGreatDoor
open Nat renaming le_refl → JW
open Nat renaming zero_add → J0
open Go renaming block_lt_of_cell → J5
open Go.RowKit
theorem sU (X:Nat→Nat) (i v:Nat):∀ n,i<n→aK (bK X i v) n+256 ^ i*X i=aK X n+256 ^ i*v
 | 0,h=>absurd h (Nat.not_lt_zero _)
 | n+1,h=>by
  rw [aK,aK]
  by_cases e:i=n
  · subst e
    rw [tF,show bK X i v i=v by unfold bK;rw [if_pos rfl]];omega
  · have h1:=sU X i v n (by omega)
    rw [show bK X i v n=X n by unfold bK;rw [if_neg (by omega)]];omega
theorem kH (X:Nat→Nat) (k:Nat):aK X (k+1)=aK X k+256 ^ k*X k:=rfl
theorem o8 (X:Nat→Nat) (i u n:Nat) (hi:i<n):aK (bK X i (X i+u)) n=aK X n+256 ^ i*u:=by
 have:=sU X i (X i+u) n hi;rw [Nat.mul_add] at this;omega
theorem At (X:Nat→Nat) (i:Nat):aK (bK (bK X (i+1) (X (i+1)+X i / 256)) i (X i%256)) 66=aK X 66∨65≤i:=by
 by_cases hi:65≤i
 · exact .inr hi
 · left
   have h1:=o8 X (i+1) (X i / 256) 66 (by omega);have h2:=sU (bK X (i+1) (X (i+1)+X i / 256)) i (X i%256) 66 (by omega);rw [show bK X (i+1) (X (i+1)+X i / 256) i=X i by unfold bK;rw [if_neg (by omega)],h1,Nat.pow_succ] at h2
   have e:256 ^ i*X i=256 ^ i*256*(X i / 256)+256 ^ i*(X i%256):=by
    rw [Nat.mul_assoc,←Nat.mul_add,Nat.div_add_mod]
   omega
theorem Ai {ds bs cs:Nat→Nat} (hds:∀ j,ds j<256) (hbs:∀ j,bs j<256) (hcs:∀ j,cs j<256):aK cs 32+aK ds 32*aK bs 32<256 ^ 65:=by
 have h1:=dY ds hds 32;have h2:=dY bs hbs 32;have h3:=dY cs hcs 32;have h4:aK ds 32*aK bs 32≤256 ^ 32*256 ^ 32:=Nat.mul_le_mul (Nat.le_of_lt h1) (Nat.le_of_lt h2);generalize aK ds 32*aK bs 32=T at *;generalize aK cs 32=C at *;simp only [Nat.reducePow,Nat.reduceMul] at *;omega
set_option maxRecDepth 20000 in
set_option maxHeartbeats 8000000 in
theorem wo (ba oa ka bb ob kb bc oc kc:Nat) (ds bs cs:Nat→Nat) (hds:∀ j,ds j<256) (hbs:∀ j,bs j<256) (hcs:∀ j,cs j<256) (w:World)
 (ha:∀ j,j<32→w.cell? ⟨ba,oa+j,none⟩=some (.int .u8 (ds j))) (hb:∀ j,j<32→w.cell? ⟨bb,ob+j,none⟩=some (.int .u8 (bs j))) (hc:∀ j,j<32→w.cell? ⟨bc,oc+j,none⟩=some (.int .u8 (cs j))) :
 Calls Tryz.prog 51 #[.slice (some ⟨ba,oa,none⟩) 32 ka,.slice (some ⟨bb,ob,none⟩) 32 kb,.slice (some ⟨bc,oc,none⟩) 32 kc] w fun e w'=>∃ s,e = .returned (.tuple #[s,.int .i64 0])∧ae w' s 32 (bf ((aK cs 32+aK ds 32*aK bs 32)%oL))∧Below w.heap.size w w':=by
 have hmk:=mp w 66 66 rfl (by decide)
 obtain ⟨W,hW⟩:∃ W,W=w.alloc (.cells (zi 66) 3):=⟨_,rfl⟩
 have hbW:Below w.heap.size w W:=by rw [hW];exact (Below.refl _ _).alloc (JW _) _
 have hx0:ah .i64 W w.heap.size 0 66 (fun _=>0):=by rw [hW];exact ah.fresh (fun j hj=>xU 66 j hj)
 have hWs:w.heap.size<W.heap.size:=by rw [hW];simp
 rw [←hW] at hmk;clear hW;have hal:ba<w.heap.size:=J5 (ha 0 (by decide));have hbl:bb<w.heap.size:=J5 (hb 0 (by decide));have hcl:bc<w.heap.size:=J5 (hc 0 (by decide))
 obtain ⟨R,hR⟩:∃ R,R=(aK cs 32+aK ds 32*aK bs 32)%oL:=⟨_,rfl⟩
 rw [←hR];have HR:=Hid.mk' hR;clear hR;go_enter Tryz.func51,Tryz.ntmps51;go_wp2_with (rw [hmk]);go_loopw [9] (fun i wr=>∃ (p:Nat) (X:Nat→Nat),p≤32∧i = .int .i64 p∧ah .i64 wr w.heap.size 0 66 X∧(∀ j,X j≤65280*p)∧aK X 66=aK cs p+aK ds p*aK bs 32∧w.heap.size<wr.heap.size∧Below w.heap.size w wr) (fun i _=>32 - (intOf i).toNat)
 case atStart=>exact ⟨0,fun _=>0,by decide,rfl,hx0,fun _=>Nat.zero_le _,by rw [aK,aK,Nat.zero_mul];kernel_rfl,hWs,hbW⟩
 case round =>
  clear hx0 hbW hWs hmk;obtain ⟨p,X,hp,rfl,hrow,hXb,hval,hsz,hbel⟩:=hrel;have HV:=Hid.mk' hval;clear hval
  by_cases hlt:p<32
  · obtain ⟨rx,fx⟩:=hrow p (by omega)
    rw [J0] at rx fx;have rc:=(hbel.cell (p:=⟨bc,oc+p,none⟩) hcl).trans (hc p hlt);have hcp:=hcs p;have hXpp:=hXb p
    have hpi:(p:Int)<32:=by omega
    have h1:=(hrow.set (i:=p) (by omega) (v:=(X p:Int)+(cs p:Int)) (u:=X p+cs p) (by omega)).drew;rw [J0] at h1;have hplus:=o8 X p (cs p) 66 (by omega)
    obtain ⟨X1,hX1⟩:∃ X1,X1=bK X p (X p+cs p):=⟨_,rfl⟩
    have hX1b:∀ j,X1 j≤65280*p+255:=fun j=>by
     rw [hX1];unfold bK;split
     · omega
     · have:=hXb j;omega
    rw [←hX1] at h1 hplus;have H1:=Hid.mk' h1;have HP:=Hid.mk' hplus;have hb1:Below w.heap.size w (wr.setCell ⟨w.heap.size,p,none⟩ (.int .i64 ((X p:Int)+(cs p:Int)))).drew:=(hbel.setCell (JW _) _).drew
    have hs1:w.heap.size<(wr.setCell ⟨w.heap.size,p,none⟩ (.int .i64 ((X p:Int)+(cs p:Int)))).drew.heap.size:=by simpa using hsz
    clear h1 hplus hX1 hXb;go_wp2;go_region;go_wp2;go_loopw [10] (fun k wt=>∃ (q:Nat) (Y:Nat→Nat),q≤32∧k = .int .i64 q∧ah .i64 wt w.heap.size 0 66 Y∧(∀ j,Y j≤65280*(p+1))∧(∀ j,p+q≤j→Y j≤65280*p+255)∧aK Y 66=aK X1 66+256 ^ p*(ds p*aK bs q)∧w.heap.size<wt.heap.size∧Below w.heap.size w wt) (fun k _=>32 - (intOf k).toNat)
    case atStart=>exact ⟨0,X1,by decide,rfl,H1.out,fun j=>by have:=hX1b j;omega,fun j _=>hX1b j,by rw [aK,Nat.mul_zero,Nat.mul_zero,Nat.add_zero],hs1,hb1⟩
    case round =>
     clear hb1 hs1 hrow rx fx rc;obtain ⟨q,Y,hq,rfl,hrow,hYb,hYp,hval,hsz,hbel⟩:=hrel;have HV2:=Hid.mk' hval;clear hval
     by_cases hqt:q<32
     · obtain ⟨rx,fx⟩:=hrow (p+q) (by omega)
       rw [J0] at rx fx;have ra:=(hbel.cell (p:=⟨ba,oa+p,none⟩) hal).trans (ha p hlt);have rb:=(hbel.cell (p:=⟨bb,ob+q,none⟩) hbl).trans (hb q hqt);have hm:ds p*bs q≤255*255:=Nat.mul_le_mul (by have:=hds p;omega) (by have:=hbs q;omega);have hY1:=hYp (p+q) (JW _)
       obtain ⟨M,hM⟩:∃ M,M=ds p*bs q:=⟨_,rfl⟩
       have hMi:(ds p:Int)*(bs q:Int)=(M:Int):=by rw [hM];exact (Int.natCast_mul _ _).symm
       rw [←hM] at hm;have h1:=(hrow.set (i:=p+q) (by omega) (v:=(Y (p+q):Int)+(M:Int)) (u:=Y (p+q)+M) (by omega)).drew;rw [J0] at h1;have hplus:=o8 Y (p+q) M 66 (by omega);have H1:=Hid.mk' h1;have HP2:=Hid.mk' hplus;have HM:=Hid.mk' hM
       have hqi:(q:Int)<32:=by omega
       have qw:IntKind.i64.wrap ((p:Int)+q)=(p:Int)+q:=by simp only [IntKind.wrap_i64];omega
       have q1:((p:Int)+q).toNat=p+q:=by omega
       have q2:(0:Int)≤(p:Int)+q∧(p:Int)+q<66:=by omega
       have hdsp:=hds p;have hbsq:=hbs q;clear h1 hplus hM;go_wp2;go_region;go_wp2;refine ⟨⟨q+1,bK Y (p+q) (Y (p+q)+M),by omega,by go_num,H1.out,fun j => ?_,fun j hj => ?_,?_,by simpa using hsz,(hbel.setCell (JW _) _).drew⟩,by simp [intOf];omega⟩
       · unfold bK;split
         · omega
         · exact hYb j
       · unfold bK;rw [if_neg (by omega)];exact hYp j (by omega)
       · rw [HP2.out,HV2.out,kH bs q,HM.out,Nat.pow_add,Nat.mul_add (ds p),Nat.mul_add (256 ^ p),←Nat.add_assoc]
         congr 1;rw [Nat.mul_assoc,Nat.mul_left_comm (256 ^ q)]
     · have hqe:q=32:=by omega
       subst hqe;go_wp2;refine ⟨⟨p+1,Y,by omega,by go_num,hrow,hYb,?_,hsz,hbel⟩,by simp [intOf];omega⟩;rw [HV2.out,HP.out,HV.out,kH cs p,kH ds p,Nat.add_mul];have e:256 ^ p*(ds p*aK bs 32)=256 ^ p*ds p*aK bs 32:=(Nat.mul_assoc _ _ _).symm;omega
  · have hpe:p=32:=by omega
    subst hpe;clear ha hb hc hal hbl hcl;go_wp2;go_loopw [11] (fun i wt=>∃ (k:Nat) (Y:Nat→Nat),k≤65∧i = .int .i64 k∧ah .i64 wt w.heap.size 0 66 Y∧(∀ j,j<k→Y j<256)∧Y k≤4194304∧(∀ j,k<j→Y j≤2088960)∧aK Y 66=aK cs 32+aK ds 32*aK bs 32∧w.heap.size<wt.heap.size∧Below w.heap.size w wt) (fun i _=>65 - (intOf i).toNat)
    case atStart=>exact ⟨0,X,by decide,rfl,hrow,fun j hj=>absurd hj (Nat.not_lt_zero j),by have:=hXb 0;omega,fun j _=>by have:=hXb j;omega,HV.out,hsz,hbel⟩
    case round =>
     clear hrow hXb hsz hbel;obtain ⟨k,Y,hk,rfl,hrow,hYl,hYk,hYg,hval,hsz,hbel⟩:=hrel;have HV2:=Hid.mk' hval;clear hval
     by_cases hkt:k<65
     · obtain ⟨r0,f0⟩:=hrow k (by omega)
       obtain ⟨r1,f1⟩:=hrow (k+1) (by omega);rw [J0] at r0 f0 r1 f1;have hY1:=hYg (k+1) (by omega)
       obtain ⟨u,hu⟩:∃ u,u=Y k:=⟨_,rfl⟩
       have h1:=(hrow.set (i:=k+1) (by omega) (v:=(Y (k+1):Int)+(u:Int) / 256) (u:=Y (k+1)+u / 256) (by omega))
       rw [J0] at h1;have hu255:=oR u (by omega);have h2:=(h1.set (i:=k) (by omega) (v:=(u:Int)%256) (u:=u%256) (by omega)).drew;rw [J0] at h2;have hcar:=(At Y k).resolve_right (by omega);rw [←hu] at hcar r0 hYk;have H2:=Hid.mk' h2;have HC:=Hid.mk' hcar
       have hki:(k:Int)<65:=by omega
       have qw:IntKind.i64.wrap ((k:Int)+1)=(k:Int)+1:=by simp only [IntKind.wrap_i64];omega
       have q1:((k:Int)+1).toNat=k+1:=by omega
       have q2:(0:Int)≤(k:Int)+1∧(k:Int)+1<66:=by omega
       have r0':(wr.setCell ⟨w.heap.size,k+1,none⟩ (.int .i64 ((Y (k+1):Int)+(u:Int) / 256))).drew.cell? ⟨w.heap.size,k,none⟩=some (.int .i64 u):=by
        have:=(h1.drew k (by omega)).1;rw [J0] at this;rw [this];unfold bK;rw [if_neg (by omega),hu]
       clear h1 h2 hcar hu;go_wp2;go_region;go_wp2;refine ⟨⟨k+1,bK (bK Y (k+1) (Y (k+1)+u / 256)) k (u%256),by omega,by go_num,H2.out,fun j hj => ?_,?_,fun j hj => ?_,HC.out.trans HV2.out,by simpa using hsz,((hbel.setCell (JW _) _).setCell (JW _) _).drew⟩,by simp [intOf];omega⟩
       · unfold bK
         by_cases e:j=k
         · rw [if_pos e];exact Nat.mod_lt _ (by decide)
         · rw [if_neg e,if_neg (by omega)];exact hYl j (by omega)
       · unfold bK;rw [if_neg (by omega),if_pos rfl];omega
       · unfold bK;rw [if_neg (by omega),if_neg (by omega)];exact hYg j (by omega)
     · have hke:k=65:=by omega
       subst hke;have hlt:=Ai hds hbs hcs
       have hY65:Y 65=0:=by
        have h1:=HV2.out;rw [kH Y 65] at h1;rw [←h1] at hlt
        rcases Nat.eq_zero_or_pos (Y 65) with h | h
        · exact h
        · have:=Nat.mul_le_mul_left (256 ^ 65) h
          omega
       have hYa:∀ j,j<66→Y j<256:=fun j hj=>by
        by_cases e:j=65
        · rw [e,hY65];decide
        · exact hYl j (by omega)
       have hYc:∀ j,(fun j=>if j<66 then Y j else 0) j<256:=fun j=>by
        show (if j<66 then Y j else 0)<256
        split
        · exact hYa j (by omega)
        · decide
       have hrow':ah .i64 wr w.heap.size 0 66 (fun j=>if j<66 then Y j else 0):=hrow.congr (fun j hj=>by show Y j=if j<66 then Y j else 0;rw [if_pos hj])
       have hv':aK (fun j=>if j<66 then Y j else 0) 66=aK cs 32+aK ds 32*aK bs 32:=by
        rw [←HV2.out];exact dP 66 (fun j hj=>by show (if j<66 then Y j else 0)=Y j;rw [if_pos hj])
       have cr:=zU w.heap.size 66 66 _ hYc (by decide) wr hrow' hsz;rw [hv',←HR.out] at cr;clear hYl hYg hrow hY65 hYa hYc hrow' hv' hlt hYk;go_wp2_with (go_at_call 107;refine cr.mono ?_;clear cr;rintro e w1 ⟨s,rfl,hs,hb1⟩);go_ret2;exact ⟨_,rfl,hs,aa hbel hb1⟩
theorem sF (va vb vc:Value) (ds bs cs:Nat→Nat) (hds:∀ j,ds j<256) (hbs:∀ j,bs j<256) (hcs:∀ j,cs j<256) (w:World) (ha:ae w va 32 ds) (hb:ae w vb 32 bs) (hc:ae w vc 32 cs) :
 Calls Tryz.prog 51 #[va,vb,vc] w fun e w'=>∃ s,e = .returned (.tuple #[s,.int .i64 0])∧ae w' s 32 (bf ((aK cs 32+aK ds 32*aK bs 32)%oL))∧Below w.heap.size w w':=by
 rcases ha with ⟨_,_,h⟩ | ⟨b1,o1,k1,rfl,_,_,h1⟩
 · omega
 · rcases hb with ⟨_,_,h⟩ | ⟨b2,o2,k2,rfl,_,_,h2⟩
   · omega
   · rcases hc with ⟨_,_,h⟩ | ⟨b3,o3,k3,rfl,_,_,h3⟩
     · omega
     · exact wo b1 o1 k1 b2 o2 k2 b3 o3 k3 ds bs cs hds hbs hcs w h1 h2 h3
end Go.Proofs.YtibdhadbflfdpaaGreatDoor
