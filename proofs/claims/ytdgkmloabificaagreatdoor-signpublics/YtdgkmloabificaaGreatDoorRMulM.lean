/- What the proof stands on: RMul, SgRef, SgVer, SgHold, SgNum, SgKnow, SgPubs, PCel, PNumb, PCon. -/
import Derived.Test.YtdgkmloabificaaGreatDoorHHashM
import Derived.Test.YtdgkmloabificaaGreatDoorHRefBlockM
import Derived.Test.YtdgkmloabificaaGreatDoorHSumM
import Derived.Test.YtdgkmloabificaaGreatDoorRRatioM
import Derived.Test.YtdgkmloabificaaGreatDoorRootRefM
import Derived.Lib.SlBytesConst
namespace Go.Proofs.YtdgkmloabificaaGreatDoor
open Go.RowKit
theorem ofB_set (X:Nat→Nat) (i v:Nat):∀ n,i<n→ofB (upd X i v) n+256 ^ i*X i=ofB X n+256 ^ i*v
 | 0,h=>absurd h (Nat.not_lt_zero _)
 | n+1,h=>by
  rw [ofB,ofB]
  by_cases e:i=n
  · subst e
    rw [ofB_upd,show upd X i v i=v by unfold upd;rw [if_pos rfl]]
    omega
  · have h1:=ofB_set X i v n (by omega)
    rw [show upd X i v n=X n by unfold upd;rw [if_neg (by omega)]]
    omega
theorem ofB_succ (X:Nat→Nat) (k:Nat):ofB X (k+1)=ofB X k+256 ^ k*X k:=rfl
theorem ofB_plus (X:Nat→Nat) (i u n:Nat) (hi:i<n):ofB (upd X i (X i+u)) n=ofB X n+256 ^ i*u:=by
 have:=ofB_set X i (X i+u) n hi
 rw [Nat.mul_add] at this
 omega
theorem ofB_carry (X:Nat→Nat) (i:Nat):ofB (upd (upd X (i+1) (X (i+1)+X i / 256)) i (X i%256)) 66=ofB X 66∨65≤i:=by
 by_cases hi:65≤i
 · exact .inr hi
 · left
   have h1:=ofB_plus X (i+1) (X i / 256) 66 (by omega)
   have h2:=ofB_set (upd X (i+1) (X (i+1)+X i / 256)) i (X i%256) 66 (by omega)
   rw [show upd X (i+1) (X (i+1)+X i / 256) i=X i by unfold upd;rw [if_neg (by omega)],h1,Nat.pow_succ] at h2
   have e:256 ^ i*X i=256 ^ i*256*(X i / 256)+256 ^ i*(X i%256):=by
    rw [Nat.mul_assoc,←Nat.mul_add,Nat.div_add_mod]
   omega
theorem muladd_lt {ds bs cs:Nat→Nat} (hds:∀ j,ds j<256) (hbs:∀ j,bs j<256) (hcs:∀ j,cs j<256):ofB cs 32+ofB ds 32*ofB bs 32<256 ^ 65:=by
 have h1:=ofB_lt ds hds 32
 have h2:=ofB_lt bs hbs 32
 have h3:=ofB_lt cs hcs 32
 have h4:ofB ds 32*ofB bs 32≤256 ^ 32*256 ^ 32:=Nat.mul_le_mul (Nat.le_of_lt h1) (Nat.le_of_lt h2)
 generalize ofB ds 32*ofB bs 32=T at *
 generalize ofB cs 32=C at *
 simp only [Nat.reducePow,Nat.reduceMul] at *
 omega
set_option maxRecDepth 20000 in
set_option maxHeartbeats 8000000 in
theorem rmuladd_at (ba oa ka bb ob kb bc oc kc:Nat) (ds bs cs:Nat→Nat) (hds:∀ j,ds j<256) (hbs:∀ j,bs j<256) (hcs:∀ j,cs j<256) (w:World)
 (ha:∀ j,j<32→w.cell? ⟨ba,oa+j,none⟩=some (.int .u8 (ds j))) (hb:∀ j,j<32→w.cell? ⟨bb,ob+j,none⟩=some (.int .u8 (bs j))) (hc:∀ j,j<32→w.cell? ⟨bc,oc+j,none⟩=some (.int .u8 (cs j))) :
 Calls Tryz.prog 26 #[.slice (some ⟨ba,oa,none⟩) 32 ka,.slice (some ⟨bb,ob,none⟩) 32 kb,.slice (some ⟨bc,oc,none⟩) 32 kc] w fun e w'=>∃ s,e = .returned (.tuple #[s,.int .i64 0])∧BytesIn w' s 32 (byt ((ofB cs 32+ofB ds 32*ofB bs 32)%oL))∧Below w.heap.size w w':=by
 have hmk:=make_ints w 66 66 rfl (by decide)
 obtain ⟨W,hW⟩:∃ W,W=w.alloc (.cells (zi 66) 3):=⟨_,rfl⟩
 have hbW:Below w.heap.size w W:=by rw [hW];exact (Below.refl _ _).alloc (Nat.le_refl _) _
 have hx0:RowAt .i64 W w.heap.size 0 66 (fun _=>0):=by rw [hW];exact RowAt.fresh (fun j hj=>zi_at 66 j hj)
 have hWs:w.heap.size<W.heap.size:=by rw [hW];simp
 rw [←hW] at hmk
 clear hW
 have hal:ba<w.heap.size:=block_lt_of_cell (ha 0 (by decide))
 have hbl:bb<w.heap.size:=block_lt_of_cell (hb 0 (by decide))
 have hcl:bc<w.heap.size:=block_lt_of_cell (hc 0 (by decide))
 obtain ⟨R,hR⟩:∃ R,R=(ofB cs 32+ofB ds 32*ofB bs 32)%oL:=⟨_,rfl⟩
 rw [←hR]
 have HR:=Hid.mk' hR
 clear hR
 go_enter Tryz.func26,Tryz.ntmps26
 go_wp2_with (rw [hmk])
 go_loopw [9] (fun i wr=>∃ (p:Nat) (X:Nat→Nat),p≤32∧i = .int .i64 p∧RowAt .i64 wr w.heap.size 0 66 X∧(∀ j,X j≤65280*p)∧ofB X 66=ofB cs p+ofB ds p*ofB bs 32∧w.heap.size<wr.heap.size∧Below w.heap.size w wr) (fun i _=>32 - (intOf i).toNat)
 case atStart=>exact ⟨0,fun _=>0,by decide,rfl,hx0,fun _=>Nat.zero_le _,by rw [ofB,ofB,Nat.zero_mul];kernel_rfl,hWs,hbW⟩
 case round =>
  clear hx0 hbW hWs hmk
  obtain ⟨p,X,hp,rfl,hrow,hXb,hval,hsz,hbel⟩:=hrel
  have HV:=Hid.mk' hval
  clear hval
  by_cases hlt:p<32
  · obtain ⟨rx,fx⟩:=hrow p (by omega)
    rw [Nat.zero_add] at rx fx
    have rc:=(hbel.cell (p:=⟨bc,oc+p,none⟩) hcl).trans (hc p hlt)
    have hcp:=hcs p
    have hXpp:=hXb p
    have hpi:(p:Int)<32:=by omega
    have h1:=(hrow.set (i:=p) (by omega) (v:=(X p:Int)+(cs p:Int)) (u:=X p+cs p) (by omega)).drew
    rw [Nat.zero_add] at h1
    have hplus:=ofB_plus X p (cs p) 66 (by omega)
    obtain ⟨X1,hX1⟩:∃ X1,X1=upd X p (X p+cs p):=⟨_,rfl⟩
    have hX1b:∀ j,X1 j≤65280*p+255:=fun j=>by
     rw [hX1];unfold upd;split
     · omega
     · have:=hXb j;omega
    rw [←hX1] at h1 hplus
    have H1:=Hid.mk' h1
    have HP:=Hid.mk' hplus
    have hb1:Below w.heap.size w (wr.setCell ⟨w.heap.size,p,none⟩ (.int .i64 ((X p:Int)+(cs p:Int)))).drew:=(hbel.setCell (Nat.le_refl _) _).drew
    have hs1:w.heap.size<(wr.setCell ⟨w.heap.size,p,none⟩ (.int .i64 ((X p:Int)+(cs p:Int)))).drew.heap.size:=by simpa using hsz
    clear h1 hplus hX1 hXb
    go_wp2
    go_region
    go_wp2
    go_loopw [10] (fun k wt=>∃ (q:Nat) (Y:Nat→Nat),q≤32∧k = .int .i64 q∧RowAt .i64 wt w.heap.size 0 66 Y∧(∀ j,Y j≤65280*(p+1))∧(∀ j,p+q≤j→Y j≤65280*p+255)∧ofB Y 66=ofB X1 66+256 ^ p*(ds p*ofB bs q)∧w.heap.size<wt.heap.size∧Below w.heap.size w wt) (fun k _=>32 - (intOf k).toNat)
    case atStart=>exact ⟨0,X1,by decide,rfl,H1.out,fun j=>by have:=hX1b j;omega,fun j _=>hX1b j,by rw [ofB,Nat.mul_zero,Nat.mul_zero,Nat.add_zero],hs1,hb1⟩
    case round =>
     clear hb1 hs1 hrow rx fx rc
     obtain ⟨q,Y,hq,rfl,hrow,hYb,hYp,hval,hsz,hbel⟩:=hrel
     have HV2:=Hid.mk' hval
     clear hval
     by_cases hqt:q<32
     · obtain ⟨rx,fx⟩:=hrow (p+q) (by omega)
       rw [Nat.zero_add] at rx fx
       have ra:=(hbel.cell (p:=⟨ba,oa+p,none⟩) hal).trans (ha p hlt)
       have rb:=(hbel.cell (p:=⟨bb,ob+q,none⟩) hbl).trans (hb q hqt)
       have hm:ds p*bs q≤255*255:=Nat.mul_le_mul (by have:=hds p;omega) (by have:=hbs q;omega)
       have hY1:=hYp (p+q) (Nat.le_refl _)
       obtain ⟨M,hM⟩:∃ M,M=ds p*bs q:=⟨_,rfl⟩
       have hMi:(ds p:Int)*(bs q:Int)=(M:Int):=by rw [hM];exact (Int.natCast_mul _ _).symm
       rw [←hM] at hm
       have h1:=(hrow.set (i:=p+q) (by omega) (v:=(Y (p+q):Int)+(M:Int)) (u:=Y (p+q)+M) (by omega)).drew
       rw [Nat.zero_add] at h1
       have hplus:=ofB_plus Y (p+q) M 66 (by omega)
       have H1:=Hid.mk' h1
       have HP2:=Hid.mk' hplus
       have HM:=Hid.mk' hM
       have hqi:(q:Int)<32:=by omega
       have qw:IntKind.i64.wrap ((p:Int)+q)=(p:Int)+q:=by simp only [IntKind.wrap_i64];omega
       have q1:((p:Int)+q).toNat=p+q:=by omega
       have q2:(0:Int)≤(p:Int)+q∧(p:Int)+q<66:=by omega
       have hdsp:=hds p
       have hbsq:=hbs q
       clear h1 hplus hM
       go_wp2
       go_region
       go_wp2
       refine ⟨⟨q+1,upd Y (p+q) (Y (p+q)+M),by omega,by go_num,H1.out,fun j => ?_,fun j hj => ?_,?_,by simpa using hsz,(hbel.setCell (Nat.le_refl _) _).drew⟩,by simp [intOf];omega⟩
       · unfold upd;split
         · omega
         · exact hYb j
       · unfold upd;rw [if_neg (by omega)];exact hYp j (by omega)
       · rw [HP2.out,HV2.out,ofB_succ bs q,HM.out,Nat.pow_add,Nat.mul_add (ds p),Nat.mul_add (256 ^ p),←Nat.add_assoc]
         congr 1
         rw [Nat.mul_assoc,Nat.mul_left_comm (256 ^ q)]
     · have hqe:q=32:=by omega
       subst hqe
       go_wp2
       refine ⟨⟨p+1,Y,by omega,by go_num,hrow,hYb,?_,hsz,hbel⟩,by simp [intOf];omega⟩
       rw [HV2.out,HP.out,HV.out,ofB_succ cs p,ofB_succ ds p,Nat.add_mul]
       have e:256 ^ p*(ds p*ofB bs 32)=256 ^ p*ds p*ofB bs 32:=(Nat.mul_assoc _ _ _).symm
       omega
  · have hpe:p=32:=by omega
    subst hpe
    clear ha hb hc hal hbl hcl
    go_wp2
    go_loopw [11] (fun i wt=>∃ (k:Nat) (Y:Nat→Nat),k≤65∧i = .int .i64 k∧RowAt .i64 wt w.heap.size 0 66 Y∧(∀ j,j<k→Y j<256)∧Y k≤4194304∧(∀ j,k<j→Y j≤2088960)∧ofB Y 66=ofB cs 32+ofB ds 32*ofB bs 32∧w.heap.size<wt.heap.size∧Below w.heap.size w wt) (fun i _=>65 - (intOf i).toNat)
    case atStart=>exact ⟨0,X,by decide,rfl,hrow,fun j hj=>absurd hj (Nat.not_lt_zero j),by have:=hXb 0;omega,fun j _=>by have:=hXb j;omega,HV.out,hsz,hbel⟩
    case round =>
     clear hrow hXb hsz hbel
     obtain ⟨k,Y,hk,rfl,hrow,hYl,hYk,hYg,hval,hsz,hbel⟩:=hrel
     have HV2:=Hid.mk' hval
     clear hval
     by_cases hkt:k<65
     · obtain ⟨r0,f0⟩:=hrow k (by omega)
       obtain ⟨r1,f1⟩:=hrow (k+1) (by omega)
       rw [Nat.zero_add] at r0 f0 r1 f1
       have hY1:=hYg (k+1) (by omega)
       obtain ⟨u,hu⟩:∃ u,u=Y k:=⟨_,rfl⟩
       have h1:=(hrow.set (i:=k+1) (by omega) (v:=(Y (k+1):Int)+(u:Int) / 256) (u:=Y (k+1)+u / 256) (by omega))
       rw [Nat.zero_add] at h1
       have hu255:=i64_and255 u (by omega)
       have h2:=(h1.set (i:=k) (by omega) (v:=(u:Int)%256) (u:=u%256) (by omega)).drew
       rw [Nat.zero_add] at h2
       have hcar:=(ofB_carry Y k).resolve_right (by omega)
       rw [←hu] at hcar r0 hYk
       have H2:=Hid.mk' h2
       have HC:=Hid.mk' hcar
       have hki:(k:Int)<65:=by omega
       have qw:IntKind.i64.wrap ((k:Int)+1)=(k:Int)+1:=by simp only [IntKind.wrap_i64];omega
       have q1:((k:Int)+1).toNat=k+1:=by omega
       have q2:(0:Int)≤(k:Int)+1∧(k:Int)+1<66:=by omega
       have r0':(wr.setCell ⟨w.heap.size,k+1,none⟩ (.int .i64 ((Y (k+1):Int)+(u:Int) / 256))).drew.cell? ⟨w.heap.size,k,none⟩=some (.int .i64 u):=by
        have:=(h1.drew k (by omega)).1
        rw [Nat.zero_add] at this
        rw [this];unfold upd;rw [if_neg (by omega),hu]
       clear h1 h2 hcar hu
       go_wp2
       go_region
       go_wp2
       refine ⟨⟨k+1,upd (upd Y (k+1) (Y (k+1)+u / 256)) k (u%256),by omega,by go_num,H2.out,fun j hj => ?_,?_,fun j hj => ?_,HC.out.trans HV2.out,by simpa using hsz,((hbel.setCell (Nat.le_refl _) _).setCell (Nat.le_refl _) _).drew⟩,by simp [intOf];omega⟩
       · unfold upd
         by_cases e:j=k
         · rw [if_pos e];exact Nat.mod_lt _ (by decide)
         · rw [if_neg e,if_neg (by omega)];exact hYl j (by omega)
       · unfold upd;rw [if_neg (by omega),if_pos rfl];omega
       · unfold upd;rw [if_neg (by omega),if_neg (by omega)];exact hYg j (by omega)
     · have hke:k=65:=by omega
       subst hke
       have hlt:=muladd_lt hds hbs hcs
       have hY65:Y 65=0:=by
        have h1:=HV2.out
        rw [ofB_succ Y 65] at h1
        rw [←h1] at hlt
        rcases Nat.eq_zero_or_pos (Y 65) with h | h
        · exact h
        · have:=Nat.mul_le_mul_left (256 ^ 65) h
          omega
       have hYa:∀ j,j<66→Y j<256:=fun j hj=>by
        by_cases e:j=65
        · rw [e,hY65];decide
        · exact hYl j (by omega)
       have hYc:∀ j,(fun j=>if j<66 then Y j else 0) j<256:=fun j=>by
        show (if j<66 then Y j else 0)<256
        split
        · exact hYa j (by omega)
        · decide
       have hrow':RowAt .i64 wr w.heap.size 0 66 (fun j=>if j<66 then Y j else 0):=hrow.congr (fun j hj=>by show Y j=if j<66 then Y j else 0;rw [if_pos hj])
       have hv':ofB (fun j=>if j<66 then Y j else 0) 66=ofB cs 32+ofB ds 32*ofB bs 32:=by
        rw [←HV2.out];exact ofB_congr 66 (fun j hj=>by show (if j<66 then Y j else 0)=Y j;rw [if_pos hj])
       have cr:=rrest_row w.heap.size 66 66 _ hYc (by decide) wr hrow' hsz
       rw [hv',←HR.out] at cr
       clear hYl hYg hrow hY65 hYa hYc hrow' hv' hlt hYk
       go_wp2_with (go_at_call 59;refine cr.mono ?_;clear cr;rintro e w1 ⟨s,rfl,hs,hb1⟩)
       go_ret2
       exact ⟨_,rfl,hs,below_next hbel hb1⟩
theorem rmuladd_good (va vb vc:Value) (ds bs cs:Nat→Nat) (hds:∀ j,ds j<256) (hbs:∀ j,bs j<256) (hcs:∀ j,cs j<256) (w:World) (ha:BytesIn w va 32 ds) (hb:BytesIn w vb 32 bs) (hc:BytesIn w vc 32 cs) :
 Calls Tryz.prog 26 #[va,vb,vc] w fun e w'=>∃ s,e = .returned (.tuple #[s,.int .i64 0])∧BytesIn w' s 32 (byt ((ofB cs 32+ofB ds 32*ofB bs 32)%oL))∧Below w.heap.size w w':=by
 rcases ha with ⟨_,_,h⟩ | ⟨b1,o1,k1,rfl,_,_,h1⟩
 · omega
 · rcases hb with ⟨_,_,h⟩ | ⟨b2,o2,k2,rfl,_,_,h2⟩
   · omega
   · rcases hc with ⟨_,_,h⟩ | ⟨b3,o3,k3,rfl,_,_,h3⟩
     · omega
     · exact rmuladd_at b1 o1 k1 b2 o2 k2 b3 o3 k3 ds bs cs hds hbs hcs w h1 h2 h3
end Go.Proofs.YtdgkmloabificaaGreatDoor
namespace Go.Proofs.YtdgkmloabificaaGreatDoor
open Go.RowKit
theorem boxQ7 (w:World) (t:P4):∃ V,V=(w.alloc (.cells zQ 68)).setCells w.heap.size 0 (q64 t.X t.Y t.Z t.T)∧RW V w.heap.size 0 (q64 t.X t.Y t.Z t.T)∧Below w.heap.size w V∧(w.alloc (.cells zQ 68)).there w.heap.size 0 (q64 t.X t.Y t.Z t.T).toArray.size :=
 ⟨_,rfl,(freshQ' w).stored _ (q64_same _ _ _ _ _ _ _ _),below_setCells (Nat.le_refl _) _ _ _ ((Below.refl _ _).alloc (Nat.le_refl _) _),there64 (freshQ' w)⟩
theorem rsum5 (v:Value) (n:Nat) (bs:Nat→Nat) (hbs:∀ j,bs j<256) (w:World) (hv:BytesIn w v n bs) (hn:n<140737488355000) :
 Calls Tryz.prog 39 #[v] w fun e w'=>∃ g cap,e = .returned (.slice (some ⟨g,0,none⟩) 64 cap)∧64≤cap∧RowAt .u8 w' g 0 64 (h5 n bs)∧Below w.heap.size w w' :=
 (rSum512_any v n bs hbs w hv hn).mono fun e w' ⟨v',he,hown,hb⟩=>by
  obtain ⟨g,cap,rfl,-,-,hc,hr⟩:=hown.form.resolve_left (fun h=>by omega)
  exact ⟨g,cap,he,hc,hr,hb⟩
set_option maxRecDepth 20000 in
set_option maxHeartbeats 4000000 in
theorem rhash_any (va vb vc:Value) (na nb nc:Nat) (a b c:Nat→Nat) (ha:∀ j,a j<256) (hb:∀ j,b j<256) (hc:∀ j,c j<256) (w:World) (h1:BytesIn w va na a) (h2:BytesIn w vb nb b) (h3:BytesIn w vc nc c) (hn:na+nb+nc<140737488355000) :
 Calls Tryz.prog 25 #[va,vb,vc] w fun e w'=>∃ s,e = .returned s∧BytesIn w' s 32 (byt (hL (na+nb+nc) (cat (na+nb) (cat na a b) c)))∧Below w.heap.size w w':=by
 obtain ⟨xa,ca,rfl,hxa,-,srca⟩:=h1.src
 obtain ⟨xb,cb,rfl,hxb,-,srcb⟩:=h2.src
 obtain ⟨xc,cc,rfl,hxc,-,srcc⟩:=h3.src
 have src0:=srca _ ((Below.refl _ _).alloc (Nat.le_refl _) (.cells #[] 5))
 have hl:=cat_lt (n:=na+nb) (cat_lt (n:=na) ha hb) hc
 have cs:=fun v W hv=>rsum5 v (na+nb+nc) (cat (na+nb) (cat na a b) c) hl W hv hn
 have cr:=fun v W hv=>rreduce_good v 64 (h5 (na+nb+nc) (cat (na+nb) (cat na a b) c)) (h5_lt _ _) (by decide) W hv
 have hZ:ofB (h5 (na+nb+nc) (cat (na+nb) (cat na a b) c)) 64%oL=hL (na+nb+nc) (cat (na+nb) (cat na a b) c):=rfl
 rw [hZ] at cr
 generalize h5 (na+nb+nc) (cat (na+nb) (cat na a b) c)=Y at *
 generalize hL (na+nb+nc) (cat (na+nb) (cat na a b) c)=Z at *
 clear h1 h2 h3 srca hZ hl ha hb hc
 go_enter Tryz.func25,Tryz.ntmps25
 go_wp2_with (first
  | (at_builtin;refine wpList_append_empty rfl (.tmp 10) (.tmp 11) rfl w.heap.size a _ rfl rfl xa na ca rfl src0 hxa (by omega) (Nat.le_refl _) ?_;intro v1 w1 own1 hb1;clear src0;(have src1:=srcb w1 hb1);clear srcb)
  | (at_builtin;refine wpList_append_bytes rfl (.tmp 12) (.tmp 13) rfl w.heap.size v1 na a rfl own1 xb nb cb b rfl src1 hxb (by omega) hb1.size ?_;intro v2 w2 own2 grow2;(have hb2:Below w.heap.size w w2:=Own.grown hb1 grow2 own1 (Nat.le_refl _) hb1.size);clear own1 src1 grow2;(have src2:=srcc w2 hb2);clear srcc)
  | (at_builtin;refine wpList_append_bytes rfl (.tmp 14) (.tmp 15) rfl w.heap.size v2 (na+nb) (cat na a b) rfl own2 xc nc cc c rfl src2 hxc (by omega) hb2.size ?_;intro v3 w3 own3 grow3;(have hb3:Below w.heap.size w w3:=Own.grown hb2 grow3 own2 (Nat.le_refl _) hb2.size);clear own2 src2 grow3;(have cs3:=cs v3 w3 (BytesIn.of_own own3));clear cs)
  | (go_at_call 39;refine cs3.mono ?_;clear cs3;rintro e w4 ⟨g4,k4,rfl,hk4,hr4,hb4⟩;(have b4:=below_next hb3 hb4);(have cr4:=cr _ w4 (rowB (n:=64) hr4 (Nat.le_refl _) (by decide) hk4));clear cr)
  | (go_at_call 58;refine cr4.mono ?_;clear cr4;rintro e w5 ⟨s5,rfl,hs5,hb5⟩))
 go_ret
 exact ⟨_,rfl,hs5,below_next b4 hb5⟩
set_option maxRecDepth 20000 in
set_option maxHeartbeats 4000000 in
theorem rbase_sg (v:Value) (ks:Nat→Nat) (hks:∀ j,ks j<256) (w:World) (hv:BytesIn w v 32 ks) :
 Calls Tryz.prog 18 #[v] w fun e w'=>∃ g cap,e = .returned (.slice (some ⟨g,0,none⟩) 32 cap)∧32≤cap∧RowAt .u8 w' g 0 32 (encB (bP (ofB ks 32)))∧Below w.heap.size w w':=by
 have hzq:=zeroQ
 have cb:Calls Tryz.prog 41 #[] w fun e w'=>∃ t:P4,e = .returned (.agg (q64 t.X t.Y t.Z t.T).toArray)∧t.Pt baseP∧Below w.heap.size w w':=rbase_pt w
 have ct:∀ (r:P4) W,r.Pt baseP→BytesIn W v 32 ks→Calls Tryz.prog 33 #[.agg (q64 r.X r.Y r.Z r.T).toArray,v] W fun e w'=>∃ t:P4,e = .returned (.tuple #[.agg (q64 t.X t.Y t.Z t.T).toArray,.int .i64 0])∧t.Pt (bP (ofB ks 32))∧Below W.heap.size W w':=fun r W hr hv=>rtimes_pt hr v ks hks W hv
 have ce:∀ (r:P4) W,r.Pt (bP (ofB ks 32))→Calls Tryz.prog 36 #[.agg (q64 r.X r.Y r.Z r.T).toArray] W fun e w'=>∃ s,e = .returned s∧NewC W w' s 32 (encB (bP (ofB ks 32)))∧Below W.heap.size W w':=fun r W hr=>renc_pt hr W
 generalize encB (bP (ofB ks 32))=Y at *
 generalize bP (ofB ks 32)=P at *
 obtain ⟨xv,cv,rfl,-,-,-⟩:=hv.src
 go_enter Tryz.func18,Tryz.ntmps18
 go_wp2_with (first
  | (go_at_call 41;refine cb.mono ?_;clear cb;rintro e w1 ⟨t1,rfl,ht1,hb1⟩;(have ct1:=ct t1 w1 ht1 (hv.still hb1));clear ct)
  | (go_at_call 33;refine ct1.mono ?_;clear ct1;rintro e w2 ⟨t2,rfl,ht2,hb2⟩;(have b:=below_next hb1 hb2);clear hb2;(obtain ⟨V2,hV2,h2,b2,u2⟩:=boxQ7 w2 t2);(have H2:=Hid.mk' hV2);clear hV2;(replace b:=below_next b b2);clear b2;(have ce2:=ce t2 V2 ht2);clear ce)
  | (with_reducible (refine id (?_:wpList _ _ _ _ _ _));refine wpList_store_mid rfl 68 _ _ rfl w2.heap.size 0 (q64 t2.X t2.Y t2.Z t2.T).toArray rfl rfl u2 (infoQA _ _ _ _) (oneQ _ _ _ _) ?_;rw [List.toList_toArray,←H2.out];clear u2 H2)
  | (refine wpList_load_mid rfl 68 _ rfl w2.heap.size 0 rfl (q64 t2.X t2.Y t2.Z t2.T) _ h2.range Tryz.underlying68 rfl (infoQ _ _ _ _) ?_)
  | (go_at_call 36;refine ce2.mono ?_;clear ce2;rintro e w3 ⟨s3,rfl,hn3,hb3⟩;(obtain ⟨g3,k3,rfl,hk3,-,hr3⟩:=hn3)))
 go_ret
 exact ⟨g3,k3,rfl,hk3,hr3,below_next b hb3⟩
set_option maxRecDepth 20000 in
set_option maxHeartbeats 4000000 in
theorem rparts_any (v:Value) (bs:Nat→Nat) (hbs:∀ j,bs j<256) (w:World) (hv:BytesIn w v 32 bs) :
 Calls Tryz.prog 17 #[v] w fun e w'=>∃ ga ca gh kh,e = .returned (.tuple #[.slice (some ⟨ga,0,none⟩) 32 ca,.slice (some ⟨gh,32,none⟩) 32 kh])∧32≤ca∧32≤kh∧RowAt .u8 w' ga 0 32 (aB bs)∧RowAt .u8 w' gh 32 32 (preB bs)∧Below w.heap.size w w':=by
 have cs:=rsum5 v 32 bs hbs w hv (by decide)
 have cc:∀ gh cap W,64≤cap→RowAt .u8 W gh 0 64 (h5 32 bs)→Calls Tryz.prog 40 #[.slice (some ⟨gh,0,none⟩) 32 cap] W fun e w'=>∃ s,e = .returned (.tuple #[s,.int .i64 0])∧NewC W w' s 32 (aB bs)∧Below W.heap.size W w':=fun gh cap W hc hr=>rclamp_good _ (h5 32 bs) (h5_lt _ _) W (rowB hr (by decide) (by decide) (by omega))
 obtain ⟨xv,cv,rfl,-,-,-⟩:=hv.src
 clear hv
 go_enter Tryz.func17,Tryz.ntmps17
 go_upto_region 3 with (first
  | (go_at_call 39;refine cs.mono ?_;clear cs;rintro e w1 ⟨gh,kh,rfl,hkh,hrh,b⟩;(have cc1:=cc gh kh w1 hkh hrh);clear cc;(have i1:(64:Int)≤(kh:Int):=by omega);(have i2:(32:Int)≤(kh:Int):=by omega);(have i3:¬(kh=32):=by omega);(have i4:((kh:Int) - 32).toNat=kh - 32:=by omega))
  | (go_at_call 40;refine cc1.mono ?_;clear cc1;rintro e w2 ⟨s2,rfl,hn2,hb2⟩;(replace hrh:=hrh.stillB hb2);(replace b:=below_next b hb2);clear hb2;(obtain ⟨ga,ca,rfl,hca,-,hra⟩:=hn2)))
 (try dsimp only [Act.put])
 replace hrh:=hrh.drew
 replace hra:=hra.drew
 replace b:=below_next b ((Below.refl w2.heap.size w2).drew)
 refine wp_region_noPanic ?_
 refine wp_region_held_drew (S:=fun w'=>Below w2.drew.heap.size w2.drew w') (by kernel_rfl) (Below.refl _ _) (fun hS => ?_)
 generalize w2.drew=V at *
 refine tkH 0 (oN 15 (Op.move (oT 5)) 22 "ref.go:36" #[]) ?v0 hS (Or.inl ⟨by rfl,?h0⟩) ?r0
 case h0 =>
  intro u hu
  go_simp
  try with_reducible rfl
 (try simp only [pS])
 refine tkH 1 (oN 16 (Op.move (oT 4)) 22 "ref.go:36" #[]) ?v1 hS (Or.inl ⟨by rfl,?h1⟩) ?r1
 case h1 =>
  intro u hu
  go_simp
  try with_reducible rfl
 (try simp only [pS])
 refine tkH 2 (oN 17 (Op.slice 22 (oT 16) (some (Operand.const (Value.int IntKind.i64 32))) none none) 22 "ref.go:36" #[jD 1]) (.slice (some ⟨gh,32,none⟩) 32 (kh - 32)) hS (Or.inl ⟨by rfl,?h2⟩) ?r2
 case h2 =>
  intro u hu
  go_simp
  try with_reducible rfl
 (try simp only [pS])
 refine tkH 3 (oN 2 (Op.assign (oT 15)) 22 "ref.go:36" #[jD 0,jP 0,jT 1,jU 2]) ?v3 hS (Or.inl ⟨by rfl,?h3⟩) ?r3
 case h3 =>
  intro u hu
  go_simp
  try with_reducible rfl
 (try simp only [pS])
 refine tkH 4 (oN 3 (Op.assign (oT 17)) 22 "ref.go:36" #[jD 2,jC 3,jP 0,jP 1,jP 2,jP 3]) ?v4 hS (Or.inl ⟨by rfl,?h4⟩) ?r4
 case h4 =>
  intro u hu
  go_simp
  try with_reducible rfl
 (try simp only [pS])
 refine wpAnyH_done (by kernel_rfl) ?_ _
 refine NoPanic.normal ?_
 clear hS
 go_wp2
 go_ret2
 refine ⟨ga,ca,gh,kh - 32,rfl,hca,by omega,hra,fun j hj => ?_,b⟩
 have q:=hrh (32+j) (by omega)
 rw [Nat.zero_add] at q
 exact q
set_option maxRecDepth 20000 in
set_option maxHeartbeats 4000000 in
theorem rpublic_bad (v:Value) (n:Nat) (bs:Nat→Nat) (w:World) (hv:BytesIn w v n bs) (hn:n≠32) :
 Calls Tryz.prog 8 #[v] w fun e w'=>e = .returned (.tuple #[.slice none 0 0,.int .i64 1])∧w'=w:=by
 obtain ⟨xo,c,rfl,-,-,-⟩:=hv.src
 have h1:¬((n:Int)=32):=by omega
 clear hv
 go_enter Tryz.func8,Tryz.ntmps8
 go_wp2
 exact bodyPost_ret (results_tmp2 rfl _ _ _) rfl ⟨rfl,rfl⟩
set_option maxRecDepth 20000 in
set_option maxHeartbeats 4000000 in
theorem rpublic_good (v:Value) (bs:Nat→Nat) (hbs:∀ j,bs j<256) (w:World) (hv:BytesIn w v 32 bs) :
 Calls Tryz.prog 8 #[v] w fun e w'=>∃ s,e = .returned (.tuple #[s,.int .i64 0])∧BytesIn w' s 32 (pubB bs)∧Below w.heap.size w w':=by
 have cp:=rparts_any v bs hbs w hv
 have cb:∀ g c W,RowAt .u8 W g 0 32 (aB bs)→32≤c→Calls Tryz.prog 18 #[.slice (some ⟨g,0,none⟩) 32 c] W fun e w'=>∃ g cap,e = .returned (.slice (some ⟨g,0,none⟩) 32 cap)∧32≤cap∧RowAt .u8 w' g 0 32 (pubB bs)∧Below W.heap.size W w':=fun g c W hr hc=>rbase_sg _ (aB bs) (aB_lt bs) W (rowB hr (Nat.le_refl _) (by decide) hc)
 obtain ⟨xv,cv,rfl,-,-,-⟩:=hv.src
 clear hv
 go_enter Tryz.func8,Tryz.ntmps8
 go_wp2_with (first
  | (go_at_call 17;refine cp.mono ?_;clear cp;rintro e w1 ⟨ga,ca,gh,kh,rfl,hca,hkh,hra,hrh,b⟩;(have cb1:=cb ga ca w1 hra hca);clear cb hrh)
  | (go_at_call 18;refine cb1.mono ?_;clear cb1;rintro e w2 ⟨g2,k2,rfl,hk2,hr2,hb2⟩))
 go_ret2
 exact ⟨_,rfl,rowB hr2 (Nat.le_refl _) (by decide) hk2,below_next b hb2⟩
set_option maxRecDepth 20000 in
set_option maxHeartbeats 4000000 in
theorem rsign_bad (v t:Value) (n:Nat) (bs:Nat→Nat) (w:World) (hv:BytesIn w v n bs) (hn:n≠32) :
 Calls Tryz.prog 13 #[v,t] w fun e w'=>e = .returned (.tuple #[.slice none 0 0,.int .i64 1])∧w'=w:=by
 obtain ⟨xo,c,rfl,-,-,-⟩:=hv.src
 have h1:¬((n:Int)=32):=by omega
 clear hv
 go_enter Tryz.func13,Tryz.ntmps13
 go_wp2
 exact bodyPost_ret (results_tmp2 rfl _ _ _) rfl ⟨rfl,rfl⟩
theorem nil_in (w:World):BytesIn w (.slice none 0 0) 0 (fun _=>0) := .inl ⟨none,rfl,rfl⟩
set_option maxRecDepth 20000 in
set_option maxHeartbeats 8000000 in
theorem rsign_good (v t:Value) (n:Nat) (bs ts:Nat→Nat) (hbs:∀ j,bs j<256) (hts:∀ j,ts j<256) (hn:n<140737488352000) (w:World) (hv:BytesIn w v 32 bs) (ht:BytesIn w t n ts) :
 Calls Tryz.prog 13 #[v,t] w fun e w'=>∃ s,e = .returned (.tuple #[s,.int .i64 0])∧BytesIn w' s 64 (sigB bs n ts)∧Below w.heap.size w w':=by
 have cp:=rparts_any v bs hbs w hv
 have c1:∀ g k W,RowAt .u8 W g 32 32 (preB bs)→32≤k→BytesIn W t n ts→Calls Tryz.prog 25 #[.slice (some ⟨g,32,none⟩) 32 k,t,.slice none 0 0] W fun e w'=>∃ s,e = .returned s∧BytesIn w' s 32 (byt (rN bs n ts))∧Below W.heap.size W w':=fun g k W hr hk ht=>by
  have h:=rhash_any (.slice (some ⟨g,32,none⟩) 32 k) t (.slice none 0 0) 32 n 0 (preB bs) ts (fun _=>0) (preB_lt bs) hts (fun _=>Nat.zero_lt_succ _) W (rowB hr (Nat.le_refl _) (by decide) hk) ht (nil_in W) (by omega)
  have e:hL (32+n+0) (cat (32+n) (cat 32 (preB bs) ts) (fun _=>0))=rN bs n ts:=hL_congr (n:=32+n) fun j hj=>cat_left hj
  rw [e] at h
  exact h
 have c2:∀ v W,BytesIn W v 32 (byt (rN bs n ts))→Calls Tryz.prog 18 #[v] W fun e w'=>∃ g cap,e = .returned (.slice (some ⟨g,0,none⟩) 32 cap)∧32≤cap∧RowAt .u8 w' g 0 32 (RB bs n ts)∧Below W.heap.size W w':=fun v W hv=>by
  have h:=rbase_sg v (byt (rN bs n ts)) (byt_lt _) W hv
  rw [rN_of] at h
  exact h
 have c3:∀ g c W,RowAt .u8 W g 0 32 (aB bs)→32≤c→Calls Tryz.prog 18 #[.slice (some ⟨g,0,none⟩) 32 c] W fun e w'=>∃ g cap,e = .returned (.slice (some ⟨g,0,none⟩) 32 cap)∧32≤cap∧RowAt .u8 w' g 0 32 (pubB bs)∧Below W.heap.size W w':=fun g c W hr hc=>rbase_sg _ (aB bs) (aB_lt bs) W (rowB hr (Nat.le_refl _) (by decide) hc)
 have c4:∀ g1 k1 g2 k2 W,RowAt .u8 W g1 0 32 (RB bs n ts)→32≤k1→RowAt .u8 W g2 0 32 (pubB bs)→32≤k2→BytesIn W t n ts→Calls Tryz.prog 25 #[.slice (some ⟨g1,0,none⟩) 32 k1,.slice (some ⟨g2,0,none⟩) 32 k2,t] W fun e w'=>∃ s,e = .returned s∧BytesIn w' s 32 (byt (kN (RB bs n ts) (pubB bs) n ts))∧Below W.heap.size W w':=fun g1 k1 g2 k2 W h1 hk1 h2 hk2 ht=>rhash_any _ _ t 32 32 n (RB bs n ts) (pubB bs) ts (encB_lt _) (encB_lt _) hts W (rowB h1 (Nat.le_refl _) (by decide) hk1) (rowB h2 (Nat.le_refl _) (by decide) hk2) ht (by omega)
 have c5:∀ u v g c W,BytesIn W u 32 (byt (kN (RB bs n ts) (pubB bs) n ts))→RowAt .u8 W g 0 32 (aB bs)→32≤c→BytesIn W v 32 (byt (rN bs n ts))→Calls Tryz.prog 26 #[u,.slice (some ⟨g,0,none⟩) 32 c,v] W fun e w'=>∃ s,e = .returned (.tuple #[s,.int .i64 0])∧BytesIn w' s 32 (byt (SN bs n ts))∧Below W.heap.size W w':=fun u v g c W hu hr hc hv=>by
  have h:=rmuladd_good u (.slice (some ⟨g,0,none⟩) 32 c) v _ (aB bs) _ (byt_lt _) (aB_lt bs) (byt_lt _) W hu (rowB hr (Nat.le_refl _) (by decide) hc) hv
  rw [kN_of,rN_of] at h
  exact h
 have e9:cat 32 (RB bs n ts) (byt (SN bs n ts))=sigB bs n ts:=rfl
 obtain ⟨xv,cv,rfl,-,-,-⟩:=hv.src
 obtain ⟨xt,ct,rfl,-,-,-⟩:=ht.src
 clear hv
 go_enter Tryz.func13,Tryz.ntmps13
 go_wp2_with (first
  | (go_at_call 17;refine cp.mono ?_;clear cp;rintro e w1 ⟨ga,ca,gh,kh,rfl,hca,hkh,hra,hrh,b⟩;(replace ht:=ht.still b);(have c11:=c1 gh kh w1 hrh hkh ht);clear c1 hrh)
  | (go_at_call 25;refine c11.mono ?_;clear c11;rintro e w2 ⟨s2,rfl,hs2,hb2⟩;(replace hra:=hra.stillB hb2);(replace ht:=ht.still hb2);(replace b:=below_next b hb2);clear hb2;(have c22:=c2 s2 w2 hs2);clear c2)
  | (go_at_call 18;refine c22.mono ?_;clear c22;rintro e w3 ⟨g3,k3,rfl,hk3,hr3,hb3⟩;(replace hra:=hra.stillB hb3);(replace ht:=ht.still hb3);(replace hs2:=hs2.still hb3);(replace b:=below_next b hb3);clear hb3;(have c33:=c3 ga ca w3 hra hca);clear c3)
  | (go_at_call 18;refine c33.mono ?_;clear c33;rintro e w4 ⟨g4,k4,rfl,hk4,hr4,hb4⟩;(replace hra:=hra.stillB hb4);(replace hr3:=hr3.stillB hb4);(replace ht:=ht.still hb4);(replace hs2:=hs2.still hb4);(replace b:=below_next b hb4);clear hb4;(have c44:=c4 g3 k3 g4 k4 w4 hr3 hk3 hr4 hk4 ht);clear c4)
  | (go_at_call 25;refine c44.mono ?_;clear c44;rintro e w5 ⟨s5,rfl,hs5,hb5⟩;(replace hra:=hra.stillB hb5);(replace hr3:=hr3.stillB hb5);(replace hs2:=hs2.still hb5);(replace b:=below_next b hb5);clear hb5 ht;(have c55:=c5 s5 s2 ga ca w5 hs5 hra hca hs2);clear c5)
  | (go_at_call 26;refine c55.mono ?_;clear c55;rintro e w6 ⟨s6,rfl,hs6,hb6⟩;(replace hr3:=hr3.stillB hb6);(replace b:=below_next b hb6);clear hb6 hra hs2 hs5;(obtain ⟨x6,k6,rfl,hx6,-,src6⟩:=hs6.src);(have ba:Below w6.heap.size w6 (w6.alloc (.cells #[] 5)):=(Below.refl _ _).alloc (Nat.le_refl _) _);(have src0:Src (w6.alloc (.cells #[] 5)) (some ⟨g3,0,none⟩) 32 (RB bs n ts) := .inr ⟨g3,0,rfl,fun i hi=>((hr3.stillB ba) i hi).1⟩);clear ba)
  | (at_builtin;refine wpList_append_empty rfl (.tmp 36) (.tmp 37) rfl w6.heap.size (RB bs n ts) _ rfl rfl (some ⟨g3,0,none⟩) 32 k3 rfl src0 (fun h=>by cases h) (by decide) (Nat.le_refl _) ?_;intro v7 w7 own7 hb7;clear src0;(have src7:=src6 w7 hb7);clear src6)
  | (at_builtin;refine wpList_append_bytes rfl (.tmp 38) (.tmp 39) rfl w6.heap.size v7 32 (RB bs n ts) rfl own7 x6 32 k6 (byt (SN bs n ts)) rfl src7 hx6 (by decide) hb7.size ?_;intro v8 w8 own8 grow8;(have hb8:Below w6.heap.size w6 w8:=Own.grown hb7 grow8 own7 (Nat.le_refl _) hb7.size);clear own7 src7 grow8 hb7))
 go_ret2
 rw [e9] at own8
 exact ⟨_,rfl,BytesIn.of_own own8,below_next b hb8⟩
end Go.Proofs.YtdgkmloabificaaGreatDoor
namespace Go.Proofs.YtdgkmloabificaaGreatDoor
open Go.RowKit
theorem dec_no {G:World→Prop} {R:List Value→Fp × Fp→Prop} (api:PointApi G R) (v:Value) (bs:Nat→Nat) (w:World) (hbs:∀ j,bs j<256) (hv:BytesIn w v 32 bs) (hG:G w) (h:decN bs=none) :
 Calls Tryz.prog 27 #[v] w fun e w'=>∃ c:List Value,e = .returned (.tuple #[.agg c.toArray,.int .i64 30])∧R c ezero∧Below w.heap.size w w' :=
 (api.dec v bs w hbs hv hG).mono fun e w' ⟨c,er,he,hb,hd⟩=>by
  rcases hd with ⟨rfl,hc,-⟩ | ⟨-,hs,-⟩
  · exact ⟨c,he,hc,hb⟩
  · rw [h] at hs;cases hs
theorem dec_yes {G:World→Prop} {R:List Value→Fp × Fp→Prop} (api:PointApi G R) (v:Value) (bs:Nat→Nat) (w:World) (hbs:∀ j,bs j<256) (hv:BytesIn w v 32 bs) (hG:G w) (h:decN bs≠none) :
 Calls Tryz.prog 27 #[v] w fun e w'=>∃ (c:List Value) (P:Fp × Fp),e = .returned (.tuple #[.agg c.toArray,.int .i64 0])∧R c P∧(∀ j,j<32→encB P j=bs j)∧Below w.heap.size w w' :=
 (api.dec v bs w hbs hv hG).mono fun e w' ⟨c,er,he,hb,hd⟩=>by
  rcases hd with ⟨-,-,hn⟩ | ⟨rfl,-,P,hP,eP⟩
  · exact absurd hn h
  · exact ⟨c,P,he,hP,eP,hb⟩
set_option maxRecDepth 20000 in
set_option maxHeartbeats 4000000 in
theorem verify_arg (p t s:Value) (n q:Nat) (ps ss:Nat→Nat) (w:World) (hp:BytesIn w p n ps) (hs:BytesIn w s q ss) (h:¬(n=32∧q=64)) :
 Calls Tryz.prog 14 #[p,t,s] w fun e w'=>e = .returned (.int .i64 1)∧w'=w:=by
 obtain ⟨xp,cp,rfl,-,-,-⟩:=hp.src
 obtain ⟨xs,cs,rfl,-,-,-⟩:=hs.src
 clear hp hs
 by_cases h1:n=32
 · have h2:¬((q:Int)=64):=by omega
   subst h1
   go_enter Tryz.func14,Tryz.ntmps14
   go_wp2
   go_ret
   exact ⟨rfl,rfl⟩
 · have h2:¬((n:Int)=32):=by omega
   go_enter Tryz.func14,Tryz.ntmps14
   go_wp2
   go_ret
   exact ⟨rfl,rfl⟩
set_option maxRecDepth 20000 in
set_option maxHeartbeats 8000000 in
theorem verify_pub {G:World→Prop} {R:List Value→Fp × Fp→Prop} (cx:SgCtx G R) (p t s:Value) (n:Nat) (ps ts ss:Nat→Nat) (hps:∀ j,ps j<256) (w:World) (hp:BytesIn w p 32 ps) (ht:BytesIn w t n ts) (hs:BytesIn w s 64 ss) (hG:G w) (hd:decN ps=none) :
 Calls Tryz.prog 14 #[p,t,s] w fun e w'=>e = .returned (.int .i64 (30))∧Below w.heap.size w w':=by
 have hz:=zeroP
 have kk:=cx.api.keep
 have kl:=cx.api.len
 have ko:=cx.api.one
 have kon:=cx.api.on
 rcases hs with ⟨_,_,h⟩ | ⟨sb,so,sc,rfl,hsl,hsc,hcell⟩
 · omega
 have hs1:∀ W,Below w.heap.size w W→BytesIn W (.slice (some ⟨sb,so,none⟩) 32 sc) 32 ss:=fun W hW => .inr ⟨sb,so,sc,rfl,Nat.lt_of_lt_of_le hsl hW.size,by omega,fun j hj=>(hW.cell (p:=⟨sb,so+j,none⟩) hsl).trans (hcell j (by omega))⟩
 have hs2:∀ W,Below w.heap.size w W→BytesIn W (.slice (some ⟨sb,so+32,none⟩) 32 (sc - 32)) 32 (fun j=>ss (32+j)):=fun W hW => .inr ⟨sb,so+32,sc - 32,rfl,Nat.lt_of_lt_of_le hsl hW.size,by omega,fun j hj=>by
  have:=(hW.cell (p:=⟨sb,so+(32+j),none⟩) hsl).trans (hcell (32+j) (by omega))
  rw [←Nat.add_assoc] at this
  exact this⟩
 have i1:(64:Int)≤(sc:Int):=by omega
 have i2:(32:Int)≤(sc:Int):=by omega
 have i3:¬(sc=32):=by omega
 have i4:((sc:Int) - 32).toNat=sc - 32:=by omega
 have i5:sc - 0=sc:=rfl
 obtain ⟨xp,cp,rfl,hpn,hpc,hpsrc⟩:=hp.src
 obtain ⟨xt,ct,rfl,htn,htc,htsrc⟩:=ht.src
 clear hpsrc htsrc hcell
 have cd:=dec_no cx.api (.slice xp 32 cp) ps w hps hp hG hd
 go_enter Tryz.func14,Tryz.ntmps14
 go_wp2_with (first
  | (go_at_call 27;refine cd.mono ?_;clear cd;rintro e w1 ⟨c1,rfl,hc1,b⟩;(have l1:=kl _ _ hc1);(have o1:=ko _ _ hc1);(obtain ⟨V1,hV1,h1,b1,t1⟩:=boxP w1 c1 l1);(have H1:=Hid.mk' hV1);clear hV1;(replace b:=below_next b b1);clear b1)
  | (with_reducible (refine id (?_:wpList _ _ _ _ _ _));refine wpList_store_mid rfl 53 _ _ rfl w1.heap.size 0 c1.toArray rfl rfl t1 (infoPA l1) o1 ?_;rw [List.toList_toArray,←H1.out];clear t1 H1))
 go_ret
 exact ⟨rfl,b⟩
set_option maxRecDepth 20000 in
set_option maxHeartbeats 8000000 in
theorem verify_sig1 {G:World→Prop} {R:List Value→Fp × Fp→Prop} (cx:SgCtx G R) (p t s:Value) (n:Nat) (ps ts ss:Nat→Nat) (hps:∀ j,ps j<256) (hss:∀ j,ss j<256) (w:World) (hp:BytesIn w p 32 ps) (ht:BytesIn w t n ts) (hs:BytesIn w s 64 ss) (hG:G w) (hd:decN ps≠none) (hd2:decN ss=none) :
 Calls Tryz.prog 14 #[p,t,s] w fun e w'=>e = .returned (.int .i64 (31))∧Below w.heap.size w w':=by
 have hz:=zeroP
 have kk:=cx.api.keep
 have kl:=cx.api.len
 have ko:=cx.api.one
 have kon:=cx.api.on
 rcases hs with ⟨_,_,h⟩ | ⟨sb,so,sc,rfl,hsl,hsc,hcell⟩
 · omega
 have hs1:∀ W,Below w.heap.size w W→BytesIn W (.slice (some ⟨sb,so,none⟩) 32 sc) 32 ss:=fun W hW => .inr ⟨sb,so,sc,rfl,Nat.lt_of_lt_of_le hsl hW.size,by omega,fun j hj=>(hW.cell (p:=⟨sb,so+j,none⟩) hsl).trans (hcell j (by omega))⟩
 have hs2:∀ W,Below w.heap.size w W→BytesIn W (.slice (some ⟨sb,so+32,none⟩) 32 (sc - 32)) 32 (fun j=>ss (32+j)):=fun W hW => .inr ⟨sb,so+32,sc - 32,rfl,Nat.lt_of_lt_of_le hsl hW.size,by omega,fun j hj=>by
  have:=(hW.cell (p:=⟨sb,so+(32+j),none⟩) hsl).trans (hcell (32+j) (by omega))
  rw [←Nat.add_assoc] at this
  exact this⟩
 have i1:(64:Int)≤(sc:Int):=by omega
 have i2:(32:Int)≤(sc:Int):=by omega
 have i3:¬(sc=32):=by omega
 have i4:((sc:Int) - 32).toNat=sc - 32:=by omega
 have i5:sc - 0=sc:=rfl
 obtain ⟨xp,cp,rfl,hpn,hpc,hpsrc⟩:=hp.src
 obtain ⟨xt,ct,rfl,htn,htc,htsrc⟩:=ht.src
 clear hpsrc htsrc hcell
 have cd:=dec_yes cx.api (.slice xp 32 cp) ps w hps hp hG hd
 go_enter Tryz.func14,Tryz.ntmps14
 go_upto_region 6 with (first
  | (go_at_call 27;refine cd.mono ?_;clear cd;rintro e w1 ⟨c1,P1,rfl,hc1,e1,b⟩;(have l1:=kl _ _ hc1);(have o1:=ko _ _ hc1);(obtain ⟨V1,hV1,h1,b1,t1⟩:=boxP w1 c1 l1);(have H1:=Hid.mk' hV1);clear hV1;(replace b:=below_next b b1);clear b1)
  | (with_reducible (refine id (?_:wpList _ _ _ _ _ _));refine wpList_store_mid rfl 53 _ _ rfl w1.heap.size 0 c1.toArray rfl rfl t1 (infoPA l1) o1 ?_;rw [List.toList_toArray,←H1.out];clear t1 H1))
 (try dsimp only [Act.put])
 generalize hg1:w1.heap.size=g1 at *
 clear hg1
 replace h1:=h1.drew
 replace b:=below_next b ((Below.refl V1.heap.size V1).drew)
 refine wp_region_noPanic ?_
 refine wp_region_held_drew (S:=fun w'=>Below V1.drew.heap.size V1.drew w') (by kernel_rfl) (Below.refl _ _) (fun hS => ?_)
 generalize V1.drew=V at *
 refine tkH 0 (oN 28 (Op.move (oT 2)) 22 "sign.go:48" #[]) ?va0 hS (Or.inl ⟨by rfl,?ha0⟩) ?ra0
 case ha0 =>
  intro u hu
  go_simp
  try with_reducible rfl
 (try simp only [pS])
 refine tkH 1 (oN 29 (Op.slice 22 (oT 28) none (some (Operand.const (Value.int IntKind.i64 32))) none) 22 "sign.go:48" #[jD 0]) (.slice (some ⟨sb,so,none⟩) 32 sc) hS (Or.inl ⟨by rfl,?ha1⟩) ?ra1
 case ha1 =>
  intro u hu
  go_simp
  try with_reducible rfl
 (try simp only [pS])
 refine tkH 2 (oN 30 (Op.move (oT 2)) 22 "sign.go:48" #[]) ?va2 hS (Or.inl ⟨by rfl,?ha2⟩) ?ra2
 case ha2 =>
  intro u hu
  go_simp
  try with_reducible rfl
 (try simp only [pS])
 refine tkH 3 (oN 31 (Op.slice 22 (oT 30) (some (Operand.const (Value.int IntKind.i64 32))) none none) 22 "sign.go:48" #[jD 2]) (.slice (some ⟨sb,so+32,none⟩) 32 (sc - 32)) hS (Or.inl ⟨by rfl,?ha3⟩) ?ra3
 case ha3 =>
  intro u hu
  go_simp
  try with_reducible rfl
 (try simp only [pS])
 refine tkH 4 (oN 9 (Op.assign (oT 29)) 22 "sign.go:48" #[jD 1,jP 0,jP 1,jT 2,jU 3]) ?va4 hS (Or.inl ⟨by rfl,?ha4⟩) ?ra4
 case ha4 =>
  intro u hu
  go_simp
  try with_reducible rfl
 (try simp only [pS])
 refine tkH 5 (oN 10 (Op.assign (oT 31)) 22 "sign.go:48" #[jD 3,jC 4,jP 0,jP 1,jP 2,jP 3,jP 4]) ?va5 hS (Or.inl ⟨by rfl,?ha5⟩) ?ra5
 case ha5 =>
  intro u hu
  go_simp
  try with_reducible rfl
 (try simp only [pS])
 refine wpAnyH_done (by kernel_rfl) ?_ _
 refine NoPanic.normal ?_
 clear hS
 have cd2:=dec_no cx.api _ ss V hss (hs1 V b) (kk _ _ hG b) hd2
 go_wp2_with (first
  | (go_at_call 27;refine cd2.mono ?_;clear cd2;rintro e w2 ⟨c2,rfl,hc2,hb2⟩;(have l2:=kl _ _ hc2);(have o2:=ko _ _ hc2);(obtain ⟨V2,hV2,h2,b2,t2⟩:=boxP w2 c2 l2);(have H2:=Hid.mk' hV2);clear hV2;(replace b:=below_next (below_next b hb2) b2);clear b2 hb2)
  | (with_reducible (refine id (?_:wpList _ _ _ _ _ _));refine wpList_store_mid rfl 53 _ _ rfl w2.heap.size 0 c2.toArray rfl rfl t2 (infoPA l2) o2 ?_;rw [List.toList_toArray,←H2.out];clear t2 H2))
 go_ret
 exact ⟨rfl,b⟩
set_option maxRecDepth 20000 in
set_option maxHeartbeats 8000000 in
theorem verify_sig2 {G:World→Prop} {R:List Value→Fp × Fp→Prop} (cx:SgCtx G R) (p t s:Value) (n:Nat) (ps ts ss:Nat→Nat) (hps:∀ j,ps j<256) (hss:∀ j,ss j<256) (w:World) (hp:BytesIn w p 32 ps) (ht:BytesIn w t n ts) (hs:BytesIn w s 64 ss) (hG:G w) (hd:decN ps≠none) (hd2:decN ss≠none) (hl:¬sOf ss<oL) :
 Calls Tryz.prog 14 #[p,t,s] w fun e w'=>e = .returned (.int .i64 (31))∧Below w.heap.size w w':=by
 have hz:=zeroP
 have kk:=cx.api.keep
 have kl:=cx.api.len
 have ko:=cx.api.one
 have kon:=cx.api.on
 have hca:canonB (fun j=>ss (32+j))=false:=decide_eq_false hl
 rcases hs with ⟨_,_,h⟩ | ⟨sb,so,sc,rfl,hsl,hsc,hcell⟩
 · omega
 have hs1:∀ W,Below w.heap.size w W→BytesIn W (.slice (some ⟨sb,so,none⟩) 32 sc) 32 ss:=fun W hW => .inr ⟨sb,so,sc,rfl,Nat.lt_of_lt_of_le hsl hW.size,by omega,fun j hj=>(hW.cell (p:=⟨sb,so+j,none⟩) hsl).trans (hcell j (by omega))⟩
 have hs2:∀ W,Below w.heap.size w W→BytesIn W (.slice (some ⟨sb,so+32,none⟩) 32 (sc - 32)) 32 (fun j=>ss (32+j)):=fun W hW => .inr ⟨sb,so+32,sc - 32,rfl,Nat.lt_of_lt_of_le hsl hW.size,by omega,fun j hj=>by
  have:=(hW.cell (p:=⟨sb,so+(32+j),none⟩) hsl).trans (hcell (32+j) (by omega))
  rw [←Nat.add_assoc] at this
  exact this⟩
 have i1:(64:Int)≤(sc:Int):=by omega
 have i2:(32:Int)≤(sc:Int):=by omega
 have i3:¬(sc=32):=by omega
 have i4:((sc:Int) - 32).toNat=sc - 32:=by omega
 have i5:sc - 0=sc:=rfl
 obtain ⟨xp,cp,rfl,hpn,hpc,hpsrc⟩:=hp.src
 obtain ⟨xt,ct,rfl,htn,htc,htsrc⟩:=ht.src
 clear hpsrc htsrc hcell
 have cd:=dec_yes cx.api (.slice xp 32 cp) ps w hps hp hG hd
 go_enter Tryz.func14,Tryz.ntmps14
 go_upto_region 6 with (first
  | (go_at_call 27;refine cd.mono ?_;clear cd;rintro e w1 ⟨c1,P1,rfl,hc1,e1,b⟩;(have l1:=kl _ _ hc1);(have o1:=ko _ _ hc1);(obtain ⟨V1,hV1,h1,b1,t1⟩:=boxP w1 c1 l1);(have H1:=Hid.mk' hV1);clear hV1;(replace b:=below_next b b1);clear b1)
  | (with_reducible (refine id (?_:wpList _ _ _ _ _ _));refine wpList_store_mid rfl 53 _ _ rfl w1.heap.size 0 c1.toArray rfl rfl t1 (infoPA l1) o1 ?_;rw [List.toList_toArray,←H1.out];clear t1 H1))
 (try dsimp only [Act.put])
 generalize hg1:w1.heap.size=g1 at *
 clear hg1
 replace h1:=h1.drew
 replace b:=below_next b ((Below.refl V1.heap.size V1).drew)
 refine wp_region_noPanic ?_
 refine wp_region_held_drew (S:=fun w'=>Below V1.drew.heap.size V1.drew w') (by kernel_rfl) (Below.refl _ _) (fun hS => ?_)
 generalize V1.drew=V at *
 refine tkH 0 (oN 28 (Op.move (oT 2)) 22 "sign.go:48" #[]) ?va0 hS (Or.inl ⟨by rfl,?ha0⟩) ?ra0
 case ha0 =>
  intro u hu
  go_simp
  try with_reducible rfl
 (try simp only [pS])
 refine tkH 1 (oN 29 (Op.slice 22 (oT 28) none (some (Operand.const (Value.int IntKind.i64 32))) none) 22 "sign.go:48" #[jD 0]) (.slice (some ⟨sb,so,none⟩) 32 sc) hS (Or.inl ⟨by rfl,?ha1⟩) ?ra1
 case ha1 =>
  intro u hu
  go_simp
  try with_reducible rfl
 (try simp only [pS])
 refine tkH 2 (oN 30 (Op.move (oT 2)) 22 "sign.go:48" #[]) ?va2 hS (Or.inl ⟨by rfl,?ha2⟩) ?ra2
 case ha2 =>
  intro u hu
  go_simp
  try with_reducible rfl
 (try simp only [pS])
 refine tkH 3 (oN 31 (Op.slice 22 (oT 30) (some (Operand.const (Value.int IntKind.i64 32))) none none) 22 "sign.go:48" #[jD 2]) (.slice (some ⟨sb,so+32,none⟩) 32 (sc - 32)) hS (Or.inl ⟨by rfl,?ha3⟩) ?ra3
 case ha3 =>
  intro u hu
  go_simp
  try with_reducible rfl
 (try simp only [pS])
 refine tkH 4 (oN 9 (Op.assign (oT 29)) 22 "sign.go:48" #[jD 1,jP 0,jP 1,jT 2,jU 3]) ?va4 hS (Or.inl ⟨by rfl,?ha4⟩) ?ra4
 case ha4 =>
  intro u hu
  go_simp
  try with_reducible rfl
 (try simp only [pS])
 refine tkH 5 (oN 10 (Op.assign (oT 31)) 22 "sign.go:48" #[jD 3,jC 4,jP 0,jP 1,jP 2,jP 3,jP 4]) ?va5 hS (Or.inl ⟨by rfl,?ha5⟩) ?ra5
 case ha5 =>
  intro u hu
  go_simp
  try with_reducible rfl
 (try simp only [pS])
 refine wpAnyH_done (by kernel_rfl) ?_ _
 refine NoPanic.normal ?_
 clear hS
 have cd2:=dec_yes cx.api _ ss V hss (hs1 V b) (kk _ _ hG b) hd2
 go_wp2_with (first
  | (go_at_call 27;refine cd2.mono ?_;clear cd2;rintro e w2 ⟨c2,P2,rfl,hc2,e2,hb2⟩;(have l2:=kl _ _ hc2);(have o2:=ko _ _ hc2);(obtain ⟨V2,hV2,h2,b2,t2⟩:=boxP w2 c2 l2);(have H2:=Hid.mk' hV2);clear hV2;(replace h1:=(h1.still hb2).still b2);(replace b:=below_next (below_next b hb2) b2);clear b2 hb2;(have cc:=canonical_good _ (fun j=>ss (32+j)) (fun j=>hss _) V2 (cx.ord _ (kk _ _ hG b)) (hs2 V2 b));rw [hca] at cc)
  | (with_reducible (refine id (?_:wpList _ _ _ _ _ _));refine wpList_store_mid rfl 53 _ _ rfl w2.heap.size 0 c2.toArray rfl rfl t2 (infoPA l2) o2 ?_;rw [List.toList_toArray,←H2.out];clear t2 H2)
  | (go_at_call 28;refine cc.mono ?_;clear cc;rintro e w3 ⟨rfl,hb3⟩;(replace h1:=h1.still hb3);(replace h2:=h2.still hb3);(replace b:=below_next b hb3);clear hb3))
 go_ret
 exact ⟨rfl,b⟩
set_option maxRecDepth 20000 in
set_option maxHeartbeats 8000000 in
theorem verify_main {G:World→Prop} {R:List Value→Fp × Fp→Prop} (cx:SgCtx G R) (p t s:Value) (n:Nat) (ps ts ss:Nat→Nat) (hps:∀ j,ps j<256) (hts:∀ j,ts j<256) (hss:∀ j,ss j<256) (hn:n<1152921504606846976) (w:World) (hp:BytesIn w p 32 ps) (ht:BytesIn w t n ts) (hs:BytesIn w s 64 ss) (hG:G w) (hd:decN ps≠none) (hd2:decN ss≠none) (hl:sOf ss<oL) :
 Calls Tryz.prog 14 #[p,t,s] w fun e w'=>e = .returned (.int .i64 (verE 32 ps n ts 64 ss))∧Below w.heap.size w w':=by
 have hz:=zeroP
 have kk:=cx.api.keep
 have kl:=cx.api.len
 have ko:=cx.api.one
 have kon:=cx.api.on
 have hca:canonB (fun j=>ss (32+j))=true:=decide_eq_true hl
 have hver:=fun P Q hP hQ eP eQ=>verE_pts (m:=n) (t:=ts) hd hd2 hl (P:=P) (Q:=Q) hP hQ eP eQ
 generalize hres:verE 32 ps n ts 64 ss=res at *
 rcases hs with ⟨_,_,h⟩ | ⟨sb,so,sc,rfl,hsl,hsc,hcell⟩
 · omega
 have hs1:∀ W,Below w.heap.size w W→BytesIn W (.slice (some ⟨sb,so,none⟩) 32 sc) 32 ss:=fun W hW => .inr ⟨sb,so,sc,rfl,Nat.lt_of_lt_of_le hsl hW.size,by omega,fun j hj=>(hW.cell (p:=⟨sb,so+j,none⟩) hsl).trans (hcell j (by omega))⟩
 have hs2:∀ W,Below w.heap.size w W→BytesIn W (.slice (some ⟨sb,so+32,none⟩) 32 (sc - 32)) 32 (fun j=>ss (32+j)):=fun W hW => .inr ⟨sb,so+32,sc - 32,rfl,Nat.lt_of_lt_of_le hsl hW.size,by omega,fun j hj=>by
  have:=(hW.cell (p:=⟨sb,so+(32+j),none⟩) hsl).trans (hcell (32+j) (by omega))
  rw [←Nat.add_assoc] at this
  exact this⟩
 have i1:(64:Int)≤(sc:Int):=by omega
 have i2:(32:Int)≤(sc:Int):=by omega
 have i3:¬(sc=32):=by omega
 have i4:((sc:Int) - 32).toNat=sc - 32:=by omega
 have i5:sc - 0=sc:=rfl
 obtain ⟨xp,cp,rfl,hpn,hpc,hpsrc⟩:=hp.src
 obtain ⟨xt,ct,rfl,htn,htc,htsrc⟩:=ht.src
 clear hpsrc htsrc hcell
 have cd:=dec_yes cx.api (.slice xp 32 cp) ps w hps hp hG hd
 go_enter Tryz.func14,Tryz.ntmps14
 go_upto_region 6 with (first
  | (go_at_call 27;refine cd.mono ?_;clear cd;rintro e w1 ⟨c1,P1,rfl,hc1,e1,b⟩;(have l1:=kl _ _ hc1);(have o1:=ko _ _ hc1);(obtain ⟨V1,hV1,h1,b1,t1⟩:=boxP w1 c1 l1);(have H1:=Hid.mk' hV1);clear hV1;(replace b:=below_next b b1);clear b1)
  | (with_reducible (refine id (?_:wpList _ _ _ _ _ _));refine wpList_store_mid rfl 53 _ _ rfl w1.heap.size 0 c1.toArray rfl rfl t1 (infoPA l1) o1 ?_;rw [List.toList_toArray,←H1.out];clear t1 H1))
 (try dsimp only [Act.put])
 generalize hg1:w1.heap.size=g1 at *
 clear hg1
 replace h1:=h1.drew
 replace b:=below_next b ((Below.refl V1.heap.size V1).drew)
 refine wp_region_noPanic ?_
 refine wp_region_held_drew (S:=fun w'=>Below V1.drew.heap.size V1.drew w') (by kernel_rfl) (Below.refl _ _) (fun hS => ?_)
 generalize V1.drew=V at *
 refine tkH 0 (oN 28 (Op.move (oT 2)) 22 "sign.go:48" #[]) ?va0 hS (Or.inl ⟨by rfl,?ha0⟩) ?ra0
 case ha0 =>
  intro u hu
  go_simp
  try with_reducible rfl
 (try simp only [pS])
 refine tkH 1 (oN 29 (Op.slice 22 (oT 28) none (some (Operand.const (Value.int IntKind.i64 32))) none) 22 "sign.go:48" #[jD 0]) (.slice (some ⟨sb,so,none⟩) 32 sc) hS (Or.inl ⟨by rfl,?ha1⟩) ?ra1
 case ha1 =>
  intro u hu
  go_simp
  try with_reducible rfl
 (try simp only [pS])
 refine tkH 2 (oN 30 (Op.move (oT 2)) 22 "sign.go:48" #[]) ?va2 hS (Or.inl ⟨by rfl,?ha2⟩) ?ra2
 case ha2 =>
  intro u hu
  go_simp
  try with_reducible rfl
 (try simp only [pS])
 refine tkH 3 (oN 31 (Op.slice 22 (oT 30) (some (Operand.const (Value.int IntKind.i64 32))) none none) 22 "sign.go:48" #[jD 2]) (.slice (some ⟨sb,so+32,none⟩) 32 (sc - 32)) hS (Or.inl ⟨by rfl,?ha3⟩) ?ra3
 case ha3 =>
  intro u hu
  go_simp
  try with_reducible rfl
 (try simp only [pS])
 refine tkH 4 (oN 9 (Op.assign (oT 29)) 22 "sign.go:48" #[jD 1,jP 0,jP 1,jT 2,jU 3]) ?va4 hS (Or.inl ⟨by rfl,?ha4⟩) ?ra4
 case ha4 =>
  intro u hu
  go_simp
  try with_reducible rfl
 (try simp only [pS])
 refine tkH 5 (oN 10 (Op.assign (oT 31)) 22 "sign.go:48" #[jD 3,jC 4,jP 0,jP 1,jP 2,jP 3,jP 4]) ?va5 hS (Or.inl ⟨by rfl,?ha5⟩) ?ra5
 case ha5 =>
  intro u hu
  go_simp
  try with_reducible rfl
 (try simp only [pS])
 refine wpAnyH_done (by kernel_rfl) ?_ _
 refine NoPanic.normal ?_
 clear hS
 have cd2:=dec_yes cx.api _ ss V hss (hs1 V b) (kk _ _ hG b) hd2
 go_upto_region 11 with (first
  | (go_at_call 27;refine cd2.mono ?_;clear cd2;rintro e w2 ⟨c2,P2,rfl,hc2,e2,hb2⟩;(have l2:=kl _ _ hc2);(have o2:=ko _ _ hc2);(obtain ⟨V2,hV2,h2,b2,t2⟩:=boxP w2 c2 l2);(have H2:=Hid.mk' hV2);clear hV2;(replace h1:=(h1.still hb2).still b2);(replace b:=below_next (below_next b hb2) b2);clear b2 hb2;(have cc:=canonical_good _ (fun j=>ss (32+j)) (fun j=>hss _) V2 (cx.ord _ (kk _ _ hG b)) (hs2 V2 b));rw [hca] at cc)
  | (with_reducible (refine id (?_:wpList _ _ _ _ _ _));refine wpList_store_mid rfl 53 _ _ rfl w2.heap.size 0 c2.toArray rfl rfl t2 (infoPA l2) o2 ?_;rw [List.toList_toArray,←H2.out];clear t2 H2)
  | (go_at_call 28;refine cc.mono ?_;clear cc;rintro e w3 ⟨rfl,hb3⟩;(replace h1:=h1.still hb3);(replace h2:=h2.still hb3);(replace b:=below_next b hb3);clear hb3)
  | (go_at_call 19;refine (hashed3 cx hss hps hts w3 (hs1 w3 b) (hp.still b) (ht.still b) (kk _ _ hG b) (by omega)).mono ?_;rintro e w4 ⟨g4,rfl,hg4,hr4,hb4⟩;(replace h1:=h1.still hb4);(replace h2:=h2.still hb4);(replace b:=below_next b hb4);clear hb4 hg4))
 (try dsimp only [Act.put])
 generalize hg2:w2.heap.size=g2 at *
 clear hg2
 replace h1:=h1.drew
 replace h2:=h2.drew
 replace hr4:=hr4.drew
 replace b:=below_next b ((Below.refl w4.heap.size w4).drew)
 have hG4:=kk _ _ hG b
 refine wp_region_noPanic ?_
 refine wp_region_held_drew (S:=fun w'=>Below w4.drew.heap.size w4.drew w') (by kernel_rfl) (Below.refl _ _) (fun hS => ?_)
 generalize w4.drew=U at *
 refine tkH 1 (oN 50 (Op.move (oT 10)) 22 "sign.go:54" #[]) ?vb1 hS (Or.inl ⟨by rfl,?hb1⟩) ?rb1
 case hb1 =>
  intro u hu
  go_simp
  try with_reducible rfl
 (try simp only [pS])
 refine tkH 3 (oN 52 (Op.load 53 (oT 11)) 53 "sign.go:54" #[]) (.agg c2.toArray) hS (ldH h2 53 11 Tryz.underlying53 (infoP l2)) ?_
 (try simp only [pS])
 refine tkH 4 (oN 53 (Op.load 53 (oT 7)) 53 "sign.go:54" #[]) (.agg c1.toArray) hS (ldH h1 53 7 Tryz.underlying53 (infoP l1)) ?_
 (try simp only [pS])
 refine tkH 5 (oN 54 (Op.move (oT 12)) 22 "sign.go:54" #[]) ?vb5 hS (Or.inl ⟨by rfl,?hb5⟩) ?rb5
 case hb5 =>
  intro u hu
  go_simp
  try with_reducible rfl
 (try simp only [pS])
 refine callH 0 (oN 49 (cF1 21 #[] #[]) 53 "sign.go:54" #[]) (cx.api.base U hG4) ?_
 rintro e w5 ⟨c5,rfl,hc5,hb5⟩
 replace hS:=below_next hS hb5
 replace hr4:=hr4.stillB hb5
 replace hG4:=kk _ _ hG4 hb5
 clear hb5
 refine ⟨_,rfl,hS,?_⟩
 (try simp only [pS])
 refine callH 2 (oN 51 (cF1 20 #[oT 49,oT 50] #[53,22]) 53 "sign.go:54" #[jD 0,jD 1,jC 0]) (times_sg cx.api c5 _ hc5 _ _ (fun j=>hss _) w5 (hs2 w5 (b.trans (hS.mono b.size))) hG4) ?_
 rintro e w6 ⟨c6,rfl,hc6,hb6⟩
 replace hS:=below_next hS hb6
 replace hr4:=hr4.stillB hb6
 replace hG4:=kk _ _ hG4 hb6
 clear hb6 hc5
 refine ⟨_,rfl,hS,?_⟩
 (try simp only [pS])
 refine callH 6 (oN 55 (cF1 20 #[oT 53,oT 54] #[53,22]) 53 "sign.go:54" #[jD 4,jD 5,jC 2]) (times_sg cx.api c1 _ hc1 (.slice (some ⟨g4,0,none⟩) 32 32) _ (byt_lt _) w6 (rowB hr4 (Nat.le_refl _) (by decide) (by decide)) hG4) ?_
 rintro e w7 ⟨c7,rfl,hc7,hb7⟩
 replace hS:=below_next hS hb7
 replace hG4:=kk _ _ hG4 hb7
 clear hb7
 refine ⟨_,rfl,hS,?_⟩
 (try simp only [pS])
 refine callH 7 (oN 56 (cF1 30 #[oT 52,oT 55] #[53,53]) 53 "sign.go:54" #[jD 3,jD 6,jC 6]) (cx.api.plus c2 _ c7 _ w7 hc2 hc7 hG4) ?_
 rintro e w8 ⟨c8,rfl,hc8,hb8⟩
 replace hS:=below_next hS hb8
 replace hG4:=kk _ _ hG4 hb8
 clear hb8
 refine ⟨_,rfl,hS,?_⟩
 (try simp only [pS])
 have ez:(emul dE (ofB (fun j=>ss (32+j)) 32) baseP=eadd dE P2 (emul dE (ofB (byt (hL (32+32+n) (cat (32+32) (cat 32 ss ps) ts))) 32) P1))=(bP (sOf ss)=eadd dE P2 (emul dE (kN ss ps n ts) P1)):=by
  show (bP (sOf ss)=eadd dE P2 (emul dE (ofB (byt (kN ss ps n ts)) 32) P1))=_
  rw [kN_of]
 obtain ⟨z,hz',c9⟩:∃ z:Bool,(z=true↔bP (sOf ss)=eadd dE P2 (emul dE (kN ss ps n ts) P1))∧Calls Tryz.prog 29 #[.agg c6.toArray,.agg c8.toArray] w8 fun e w'=>e = .returned (.bool z)∧Below w8.heap.size w8 w':=⟨_,decide_eq_true_iff.trans (iff_of_eq ez),cx.api.same c6 _ c8 _ w8 hc6 hc8 hG4⟩
 clear ez
 refine callH 8 (oN 57 (cF1 29 #[oT 51,oT 56] #[53,53]) 4 "sign.go:54" #[jD 2,jD 7,jC 7]) (c9) ?_
 rintro e w9 ⟨rfl,hb9⟩
 replace hS:=below_next hS hb9
 clear hb9
 refine ⟨_,rfl,hS,?_⟩
 (try simp only [pS])
 refine tkH 9 (oN 58 (Op.unOp UnOp.not 4 (oT 57)) 4 "sign.go:54" #[jD 8]) ?vb9 hS (Or.inl ⟨by rfl,?hb9⟩) ?rb9
 case hb9 =>
  intro u hu
  go_simp
  try with_reducible rfl
 (try simp only [pS])
 refine wpAnyH_done (by kernel_rfl) ?_ _
 refine NoPanic.normal ?_
 have fin:=b.trans (hS.mono b.size)
 clear hc6 hc7 hc8 hS h1 h2 hr4
 have hv:=hver P1 P2 (kon _ _ hc1) (kon _ _ hc2) e1 e2
 cases z
 · rw [if_neg (fun h=>Bool.noConfusion (hz'.2 h))] at hv
   subst hv
   go_wp2
   go_ret
   exact ⟨rfl,fin⟩
 · rw [if_pos (hz'.1 rfl)] at hv
   subst hv
   go_wp2
   go_ret
   exact ⟨rfl,fin⟩
theorem verify_any {G:World→Prop} {R:List Value→Fp × Fp→Prop} (cx:SgCtx G R) (p t s:Value) (np n q:Nat) (ps ts ss:Nat→Nat) (hps:∀ j,ps j<256) (hts:∀ j,ts j<256) (hss:∀ j,ss j<256) (hn:n<1152921504606846976) (w:World) (hp:BytesIn w p np ps) (ht:BytesIn w t n ts) (hs:BytesIn w s q ss) (hG:G w) :
 Calls Tryz.prog 14 #[p,t,s] w fun e w'=>e = .returned (.int .i64 (verE np ps n ts q ss))∧Below w.heap.size w w':=by
 by_cases h:np=32∧q=64
 · obtain ⟨rfl,rfl⟩:=h
   by_cases hd:decN ps=none
   · rw [verE_pub hd]
     exact verify_pub cx p t s n ps ts ss hps w hp ht hs hG hd
   · by_cases hd2:decN ss=none
     · rw [verE_sig hd (.inl hd2)]
       exact verify_sig1 cx p t s n ps ts ss hps hss w hp ht hs hG hd hd2
     · by_cases hl:sOf ss<oL
       · exact verify_main cx p t s n ps ts ss hps hts hss hn w hp ht hs hG hd hd2 hl
       · rw [verE_sig hd (.inr hl)]
         exact verify_sig2 cx p t s n ps ts ss hps hss w hp ht hs hG hd hd2 hl
 · rw [verE_arg h]
   exact (verify_arg p t s np q ps ss w hp hs h).mono fun e w' ⟨he,hw⟩=>⟨he,by rw [hw];exact Below.refl _ _⟩
end Go.Proofs.YtdgkmloabificaaGreatDoor
namespace Go.Proofs.YtdgkmloabificaaGreatDoor
section
variable {n:Nat} [NeZero n]
theorem on_x {i p y D d:Fin n} (hi:i*i=0-1) (hd:d=0 - D) (h:p^2+y^2=1+D*p^2*y^2):((0-1)*i*p)*((0-1)*i*p)*(d*(y*y)+1)=y*y - 1:=by grind
theorem on_v {y D d:Fin n} (hd:d=0 - D) (h:d*(y*y)+1=0):1 - D*y*y=0:=by grind
theorem quo_x {a u v i:Fin n} (h:a*v=u) (hv:v*i=1):u*i=a:=by grind
end
theorem val_self (a:Fp):cF a.val=a:=Fin.ext (Nat.mod_eq_of_lt a.isLt)
theorem dec_enc {P:Fp × Fp} {bs:Nat→Nat} (hP:On dE P) (h:∀ j,j<32→encB P j=bs j):decN bs≠none:=by
 obtain ⟨y,hy⟩:∃ y,y=P.2.val:=⟨_,rfl⟩
 obtain ⟨x,hx⟩:∃ x,x=(xOf P).val:=⟨_,rfl⟩
 have yl:y<pF:=by rw [hy];exact P.2.isLt
 have xl:x<pF:=by rw [hx];exact (xOf P).isLt
 have y31:byt y 31<128:=by
  unfold byt
  have e:(256:Nat) ^ 31=452312848583266388373324160190187140051835877600158453279131187530910662656:=by decide
  have e2:pF<452312848583266388373324160190187140051835877600158453279131187530910662656*128:=by decide
  rw [e]
  have:=Nat.div_lt_of_lt_mul (Nat.lt_trans yl e2)
  exact Nat.lt_of_le_of_lt (Nat.mod_le _ _) this
 have b31:bs 31=byt y 31+128*(x%2):=by rw [←h 31 (by decide),hx,hy];rfl
 have lo:ofB (lo6 bs) 32=y:=by
  have e:ofB (lo6 bs) 32=ofB (byt y) 32:=ofB_congr 32 fun j hj=>by
   unfold lo6
   by_cases e:j=31
   · subst e;rw [if_pos rfl,b31];omega
   · rw [if_neg e,←h j hj,hy];unfold encB;rw [if_neg e]
  rw [e,ofB_byt]
  exact Nat.mod_eq_of_lt (Nat.lt_trans yl (by decide))
 have cx:cF x=xOf P:=by rw [hx];exact val_self _
 have cy:cF y=P.2:=by rw [hy];exact val_self _
 have ul:decU y<pF:=fsub_lt _ _
 have vl:decV y<pF:=Nat.mod_lt _ pF_pos
 have cu:cF (decU y)=P.2*P.2 - 1:=by unfold decU;rw [cF_sub _ _ (by decide),cF_mul,cy,cF_one]
 have cv:cF (decV y)=cF dN*(P.2*P.2)+1:=by unfold decV;rw [cF_add,cF_mul,cF_mul,cy,cF_one]
 have rel:xOf P*xOf P*cF (decV y)=cF (decU y):=by rw [cu,cv];exact on_x iI_sq dN_eq hP
 have v0:cF (decV y)≠0:=fun e=>by
  rw [cv] at e
  exact ns_one ns_dE (on_v dN_eq e)
 have v1:decV y≠0:=fun e=>v0 (by rw [e];exact cF_zero)
 have hq:quoR (decU y) (decV y)=x*x%pF:=by
  refine cF_inj (Nat.mod_lt _ pF_pos) (Nat.mod_lt _ pF_pos) ?_
  have e1:cF (quoR (decU y) (decV y))=cF (decU y)*fi (cF (decV y)):=by rw [←cF_inv _ vl,←cF_mul];rfl
  have e2:cF (x*x%pF)=cF x*cF x:=by rw [←cF_mul];rfl
  rw [e1,e2,cx]
  exact quo_x rel (fi_mul v0)
 have hs:=rootR_found kP_eq xl hq v1
 cases hr:rootR kP (decU y) (decV y) with
 | none=>rw [hr] at hs;cases hs
 | some r =>
  have hr2:rootP kP (decU y) (decV y)=some r:=by rw [root_same kP_eq ul vl];exact hr
  have hi:=(root_is ul hr2).1
  unfold decN
  rw [lo,if_pos yl,hr]
  by_cases c:bs 31 / 128=1∧r=0
  · exfalso
    obtain ⟨c1,c2⟩:=c
    rw [c2,Nat.zero_mul,Nat.zero_mod,Nat.zero_mul,Nat.zero_mod] at hi
    have u0:cF (decU y)=0:=by rw [←hi];exact cF_zero
    rw [u0] at rel
    have x0:xOf P=0:=by
     rcases fp_zero rel with e | e
     · rcases fp_zero e with e | e <;> exact e
     · exact absurd e v0
    have:x=0:=by rw [hx,x0];rfl
    rw [this] at b31
    omega
  · show (if bs 31 / 128=1∧r=0 then none else _)≠none
    rw [if_neg c]
    intro e
    cases e
theorem ordN_oL:ordN=oL:=rfl
theorem bP_on (m:Nat):On dE (bP m):=emul_on ns_dE base_on m
theorem bP_add (m n:Nat):bP (m+n)=eadd dE (bP m) (bP n):=emul_add ns_dE base_on m n
theorem bP_mul (m n:Nat):emul dE n (bP m)=bP (m*n):=emul_mul ns_dE base_on m n
theorem bP_mod (m:Nat):bP (m%oL)=bP m:=by rw [←ordN_oL];exact base_mod m
theorem bP_times {a:Nat} (h:bP a=ezero) (q:Nat):bP (a*q)=ezero:=by rw [←bP_mul,h,emul_none]
theorem bP_gcd (a b:Nat):bP a=ezero→bP b=ezero→bP (Nat.gcd a b)=ezero:=by
 induction a,b using Nat.gcd.induction with
 | H0 n=>intro _ h;rw [Nat.gcd_zero_left];exact h
 | H1 m n hm ih =>
  intro h1 h2
  rw [Nat.gcd_rec]
  refine ih ?_ h1
  have e:=bP_add (m*(n / m)) (n%m)
  rw [Nat.div_add_mod,h2,bP_times h1,zero_eadd] at e
  exact e.symm
theorem base_not:bP 1≠ezero:=by
 have e:bP 1=baseP:=zero_eadd dE baseP
 rw [e]
 intro h
 have h2:(baseP).2=(1:Fp):=by rw [h];rfl
 exact absurd h2 (by decide)
theorem eadd_left {P Q R:Fp × Fp} (hP:On dE P) (hQ:On dE Q) (hR:On dE R) (h:eadd dE P Q=eadd dE P R):Q=R:=by
 have h1:=eadd_assoc ns_dE (eneg_on hP) hP hQ
 have h2:=eadd_assoc ns_dE (eneg_on hP) hP hR
 rw [eneg_add ns_dE hP,zero_eadd] at h1 h2
 rw [h1,h2,h]
theorem bP_inj_le {m n:Nat} (hmn:m≤n) (hn:n<oL) (h:bP m=bP n):m=n:=by
 obtain ⟨d,rfl⟩:∃ d,n=m+d:=⟨n - m,by omega⟩
 have hd:bP d=ezero:=by
  rw [bP_add] at h
  have h0:eadd dE (bP m) ezero=eadd dE (bP m) (bP d):=by rw [eadd_zero];exact h
  exact (eadd_left (bP_on m) (ezero_on dE) (bP_on d) h0).symm
 rcases Nat.eq_zero_or_pos d with h0 | h0
 · omega
 · exfalso
   have ho:bP oL=ezero:=by rw [←bP_mod,Nat.mod_self];rfl
   have hg:=bP_gcd d oL hd ho
   rcases ord_prime.2 (Nat.gcd d oL) (Nat.gcd_dvd_right d oL) with e | e
   · rw [e] at hg;exact base_not hg
   · have:=Nat.le_of_dvd h0 (Nat.gcd_dvd_left d oL)
     rw [e,ordN_oL] at this
     omega
theorem bP_inj {m n:Nat} (hm:m<oL) (hn:n<oL) (h:bP m=bP n):m=n:=by
 rcases Nat.le_total m n with e | e
 · exact bP_inj_le e hn h
 · exact (bP_inj_le e hm h.symm).symm
theorem bP_rest {m n:Nat} (h:bP m=bP n):m%oL=n%oL:=bP_inj (Nat.mod_lt _ oL_pos) (Nat.mod_lt _ oL_pos) (by rw [bP_mod,bP_mod,h])
theorem SN_lt (s:Nat→Nat) (n:Nat) (t:Nat→Nat):SN s n t<oL:=Nat.mod_lt _ oL_pos
theorem sig_S (s:Nat→Nat) (n:Nat) (t:Nat→Nat):sOf (sigB s n t)=SN s n t:=by
 have e:sOf (sigB s n t)=ofB (byt (SN s n t)) 32:=ofB_congr 32 fun j _=>cat_right j
 rw [e,ofB_ord (SN_lt s n t)]
theorem sig_R (s:Nat→Nat) (n:Nat) (t:Nat→Nat):∀ j,j<32→encB (bP (rN s n t)) j=sigB s n t j:=fun _ hj=>(cat_left hj).symm
theorem pub_enc (s:Nat→Nat):∀ j,j<32→encB (bP (aN s)) j=pubB s j:=fun _ _=>rfl
theorem dec_pub (s:Nat→Nat):decN (pubB s)≠none:=dec_enc (bP_on _) (pub_enc s)
theorem SN_eq (s:Nat→Nat) (n:Nat) (t:Nat→Nat):bP (SN s n t)=eadd dE (bP (rN s n t)) (emul dE (kN (RB s n t) (pubB s) n t) (bP (aN s))):=by
 unfold SN
 rw [bP_mod,bP_add,bP_mul,Nat.mul_comm (kN _ _ _ _)]
theorem sign_text (s:Nat→Nat) (n m:Nat) (t u:Nat→Nat) (h:aN s*kN (RB s n t) (pubB s) n t%oL≠aN s*kN (RB s n t) (pubB s) m u%oL):verE 32 (pubB s) m u 64 (sigB s n t)=31:=by
 have hk:kN (sigB s n t) (pubB s) m u=kN (RB s n t) (pubB s) m u:=kN_congr (fun j hj=>(sig_R s n t j hj).symm) (fun _ _=>rfl) (fun _ _=>rfl)
 rw [verE_pts (dec_pub s) (dec_enc (bP_on _) (sig_R s n t)) (by rw [sig_S];exact SN_lt s n t) (bP_on (aN s)) (bP_on (rN s n t)) (pub_enc s) (sig_R s n t),hk,sig_S,if_neg]
 intro e
 rw [SN_eq,bP_mul,bP_mul] at e
 exact h (bP_rest (eadd_left (bP_on _) (bP_on _) (bP_on _) e))
end Go.Proofs.YtdgkmloabificaaGreatDoor
namespace Go.Proofs.YtdgkmloabificaaGreatDoor
def encL (x y j:Nat):Nat:=if j=31 then byt y 31+128*(x%2) else byt y j
theorem encB_L {x y:Nat} (hx:x<pF) (hy:y<pF):encB (ptXY x y)=encL x y:=funext fun j=>by
 unfold encB encL
 rw [ptXY_x y hx,ptXY_y x hy]
def zB:Nat→Nat:=fun _=>0
def tA:Nat→Nat:=fun _=>97
def tB:Nat→Nat:=fun _=>98
def aZ:Nat:=39325648866980652792715009169219496062012184734522019333892538943312776480336
def xA:Nat:=9639205628789703341510410801487549615560488670885798085067615194958049462616
def yA:Nat:=18930617471878267742194159801949745215346600387277955685031939302387136031291
def rZ:Nat:=7181184326793992088570470973156240928892923053541374345874775889579607004469
def xR:Nat:=57424469103247101692668843822703452406020131022418294163025224199466881445546
def yR6:Nat:=9325306609193551227202014907241585160928628658924949105388706877074100801655
def kA:Nat:=5342471463881428930797138262920834713104398423462459297578335204784601439577
def kB:Nat:=6613556067966685523513348689606383248005699325935486652613800825180543702365
set_option maxRecDepth 100000 in
theorem aN_z:aN zB=aZ:=by kernel_rfl
set_option maxRecDepth 100000 in
theorem rN_z:rN zB 1 tA=rZ:=by kernel_rfl
set_option maxRecDepth 100000 in
theorem bP_a:bP aZ=ptXY xA yA:=base_times (by decide) (by kernel_rfl)
set_option maxRecDepth 100000 in
theorem bP_r:bP rZ=ptXY xR yR6:=base_times (by decide) (by kernel_rfl)
theorem pub_z:pubB zB=encL xA yA:=by unfold pubB;rw [aN_z,bP_a,encB_L (by decide) (by decide)]
theorem R_z:RB zB 1 tA=encL xR yR6:=by unfold RB;rw [rN_z,bP_r,encB_L (by decide) (by decide)]
set_option maxRecDepth 100000 in
theorem k_a:kN (encL xR yR6) (encL xA yA) 1 tA=kA:=by kernel_rfl
set_option maxRecDepth 100000 in
theorem k_b:kN (encL xR yR6) (encL xA yA) 1 tB=kB:=by kernel_rfl
theorem pub_four:pubB zB 0=59∧pubB zB 1=106∧pubB zB 2=39∧pubB zB 3=188:=by
 rw [pub_z]
 exact ⟨by decide,by decide,by decide,by decide⟩
theorem know_text:verE 32 (pubB zB) 1 tB 64 (sigB zB 1 tA)=31:=sign_text zB 1 1 tA tB (by
 rw [pub_z,R_z,aN_z,k_a,k_b]
 decide)
end Go.Proofs.YtdgkmloabificaaGreatDoor
namespace Go.Proofs.YtdgkmloabificaaGreatDoor
open Go.RowKit
theorem num7_any (n:Int) (w:World):Calls Tryz.prog 9 #[.int .i64 n] w fun e w'=>e = .returned (.int .i64 n)∧w'=w:=by
 go_enter Tryz.func9,Tryz.ntmps9
 go_wp2
 go_ret
 exact ⟨rfl,rfl⟩
theorem text_in (w:World) (x:Nat) (m:Nat × Nat):BytesIn (w.alloc (.cells #[.int .u8 x] 5 m)) (.slice (some ⟨w.heap.size,0,none⟩) 1 1) 1 (fun _=>x):=by
 refine .inr ⟨w.heap.size,0,1,rfl,by simp,Nat.le_refl _,fun j hj => ?_⟩
 obtain rfl:j=0:=by omega
 rw [Nat.zero_add,cell_of_row _ _ 0 _ _ _ (heap_alloc_new w _)]
 rfl
theorem str4o (w:World) (g o cap:Nat) (x0 x1 x2 x3:UInt8) (h0:w.cell? ⟨g,o+0,none⟩=some (.int .u8 (x0.toNat:Int))) (h1:w.cell? ⟨g,o+1,none⟩=some (.int .u8 (x1.toNat:Int))) (h2:w.cell? ⟨g,o+2,none⟩=some (.int .u8 (x2.toNat:Int))) (h3:w.cell? ⟨g,o+3,none⟩=some (.int .u8 (x3.toNat:Int))) :
 (convert 22 9 (.slice (some ⟨g,o,none⟩) 4 cap)).run Tryz.prog w = .ok (.string ⟨#[x0,x1,x2,x3]⟩) w :=
 run_convert_bytes_back w 22 9 5 ⟨g,o,none⟩ cap [x0,x1,x2,x3] Tryz.underlying22 Tryz.underlying5 (by kernel_rfl) (fun j hj=>by
  rw [Addr.add_mid]
  match j,hj with
  | 0,_=>exact h0
  | 1,_=>exact h1
  | 2,_=>exact h2
  | 3,_=>exact h3)
set_option maxRecDepth 20000 in
set_option maxHeartbeats 4000000 in
theorem knows7 {G:World→Prop} {R:List Value→Fp × Fp→Prop} (cx:SgCtx G R) (w:World) (hG:G w) :
 Calls Tryz.prog 11 #[] w fun e w'=>e = .returned (.bool true)∧Below w.heap.size w w':=by
 have hmk:=make_bytes w 32 32 rfl (by decide)
 have kk:=cx.api.keep
 obtain ⟨W,hW⟩:∃ W,W=w.alloc (.cells (zb 32) 5):=⟨_,rfl⟩
 have hrow:RowAt .u8 W w.heap.size 0 32 zB:=by rw [hW];exact RowAt.fresh (fun j hj=>zb_at 32 j hj)
 have b:Below w.heap.size w W:=by rw [hW];exact (Below.refl _ _).alloc (Nat.le_refl _) _
 rw [←hW] at hmk
 clear hW
 have z0:∀ j,zB j<256:=fun _=>(by decide:0<256)
 have a0:∀ j,tA j<256:=fun _=>(by decide:97<256)
 have b0:∀ j,tB j<256:=fun _=>(by decide:98<256)
 have cp:=public_good cx.api cx.sha (.slice (some ⟨w.heap.size,0,none⟩) 32 32) zB z0 W (rowB hrow (Nat.le_refl _) (by decide) (by decide)) (kk _ _ hG b)
 have cg:=fun W hz hG=>sign_good cx (.slice (some ⟨w.heap.size,0,none⟩) 32 32) (.slice (some ⟨W.heap.size,0,none⟩) 1 1) 1 zB tA z0 a0 (by decide) (W.alloc (.cells #[.int .u8 97] 5 (1,2))) hz (text_in W 97 (1,2)) hG
 have cv:=fun (W:World) p s hp hs hG=>verify_any cx p (.slice (some ⟨W.heap.size,0,none⟩) 1 1) s 32 1 64 (pubB zB) tB (sigB zB 1 tA) (encB_lt _) b0 (sigB_lt _ _ _) (by decide) (W.alloc (.cells #[.int .u8 98] 5 (1,2))) hp (text_in W 98 (1,2)) hs hG
 rw [know_text] at cv
 obtain ⟨p0,p1,p2,p3⟩:=pub_four
 generalize sigB zB 1 tA=SG at *
 generalize pubB zB=PB at *
 have hca:∀ W:World,(convert 22 22 (.slice (some ⟨W.heap.size,0,none⟩) 1 1)).run Tryz.prog (W.alloc (.cells #[.int .u8 97] 5)) = .ok (.slice (some ⟨W.heap.size,0,none⟩) 1 1) (W.alloc (.cells #[.int .u8 97] 5 (1,2))):=fun W=>Lib.run_convert_bytes_const W 22 5 #[.int .u8 97] 1 1 Tryz.underlying22 Tryz.underlying5
 have hcb:∀ W:World,(convert 22 22 (.slice (some ⟨W.heap.size,0,none⟩) 1 1)).run Tryz.prog (W.alloc (.cells #[.int .u8 98] 5)) = .ok (.slice (some ⟨W.heap.size,0,none⟩) 1 1) (W.alloc (.cells #[.int .u8 98] 5 (1,2))):=fun W=>Lib.run_convert_bytes_const W 22 5 #[.int .u8 98] 1 1 Tryz.underlying22 Tryz.underlying5
 clear z0 a0 b0
 go_enter Tryz.func11,Tryz.ntmps11
 go_wp2_with (first
  | rw [hmk]
  | (go_at_call 7;refine cp.mono ?_;clear cp hmk;rintro e w1 ⟨s1,rfl,hp1,hb1⟩;(obtain ⟨gp,op,kp,rfl,lp,k4,hc1⟩:=hp1.resolve_left (fun ⟨_,_,h⟩=>by omega));(have hp1:BytesIn w1 (.slice (some ⟨gp,op,none⟩) 32 kp) 32 PB := .inr ⟨gp,op,kp,rfl,lp,k4,hc1⟩);(replace hrow:=hrow.stillB hb1);(replace b:=below_next b hb1);clear hb1;(have ba:Below w1.heap.size w1 (w1.alloc (.cells #[.int .u8 97] 5 (1,2))):=(Below.refl _ _).alloc (Nat.le_refl _) _);(have cg1:=cg w1 (rowB (hrow.stillB ba) (Nat.le_refl _) (by decide) (by decide)) (kk _ _ hG (below_next b ba)));clear cg)
  | (go_at_call 12;refine cg1.mono ?_;clear cg1;rintro e w2 ⟨g2,k2,rfl,hk2,hr2,hb2⟩;(have hb12:=ba.trans (hb2.mono ba.size));(replace hp1:=hp1.still hb12);(replace b:=below_next b hb12);(have q0:=hc1 0 (by decide));(have q1:=hc1 1 (by decide));(have q2:=hc1 2 (by decide));(have q3:=hc1 3 (by decide));rw [p0] at q0;rw [p1] at q1;rw [p2] at q2;rw [p3] at q3;(replace q0:=(hb12.cell (p:=⟨gp,op+0,none⟩) lp).trans q0);(replace q1:=(hb12.cell (p:=⟨gp,op+1,none⟩) lp).trans q1);(replace q2:=(hb12.cell (p:=⟨gp,op+2,none⟩) lp).trans q2);(replace q3:=(hb12.cell (p:=⟨gp,op+3,none⟩) lp).trans q3);(have s4:=str4o w2 gp op kp 59 106 39 188 q0 q1 q2 q3);clear q0 q1 q2 q3 hc1 hb12 ba hb2;(have bb:Below w2.heap.size w2 (w2.alloc (.cells #[.int .u8 98] 5 (1,2))):=(Below.refl _ _).alloc (Nat.le_refl _) _);(have cv2:=cv w2 _ _ (hp1.still bb) (rowB (hr2.stillB bb) (Nat.le_refl _) (by decide) hk2) (kk _ _ hG (below_next b bb)));clear cv;(have i4:(4:Int)≤(kp:Int):=by omega))
  | (go_at_call 9;refine (num7_any _ _).mono ?_;rintro e wn ⟨rfl,hwn⟩;subst hwn)
  | (go_at_call 14;refine cv2.mono ?_;clear cv2;rintro e w3 ⟨rfl,hb3⟩))
 go_ret
 exact ⟨rfl,below_next (below_next b bb) hb3⟩
end Go.Proofs.YtdgkmloabificaaGreatDoor
namespace Go.Proofs.YtdgkmloabificaaGreatDoor
open Go.RowKit
set_option maxRecDepth 20000 in
set_option maxHeartbeats 4000000 in
theorem signPublics_any {G:World→Prop} {R:List Value→Fp × Fp→Prop} (cx:SgCtx G R) (v:Value) (n:Nat) (bs:Nat→Nat) (hbs:∀ j,bs j<256) (hn0:n<140737488352000) (w:World) (hv:BytesIn w v n bs) (hG:G w) :
 Calls Tryz.prog 3 #[v] w fun e w'=>e = .returned (.bool true)∧Below w.heap.size w w':=by
 have hn:n<140737488355000:=by omega
 have hL:=lent_any v n bs w hv hn
 have hK:=fun W hG=>knows7 cx W hG
 have kk:=cx.api.keep
 have pair:∃ (S:ByteArray) (er:Int),(∀ x W,BytesIn W x n bs→G W→Calls Tryz.prog 7 #[x] W fun e w'=>∃ s,e = .returned (.tuple #[s,.int .i64 er])∧Str w' s S∧Below W.heap.size W w')∧(∀ x W,BytesIn W x n bs→Calls Tryz.prog 8 #[x] W fun e w'=>∃ s,e = .returned (.tuple #[s,.int .i64 er])∧Str w' s S∧Below W.heap.size W w'):=by
  by_cases h:n=32
  · subst h
    exact ⟨strB 32 (pubB bs),0,fun x W hx hG=>(public_good cx.api cx.sha x bs hbs W hx hG).mono fun e w' ⟨s,he,hs,hb⟩=>⟨s,he,Str.of hs (encB_lt _),hb⟩,fun x W hx=>(rpublic_good x bs hbs W hx).mono fun e w' ⟨s,he,hs,hb⟩=>⟨s,he,Str.of hs (encB_lt _),hb⟩⟩
  · exact ⟨_,1,fun x W hx _=>(public_bad x n bs W hx h).mono fun e w' ⟨he,hb⟩=>⟨_,he,Str.nil w',hb⟩,fun x W hx=>(rpublic_bad x n bs W hx h).mono fun e w' ⟨he,hw⟩=>⟨_,he,Str.nil w',by rw [hw];exact Below.refl _ _⟩⟩
 obtain ⟨S,er,p1,p2⟩:=pair
 have hse:(S.toList == S.toList)=true:=beq_self_eq_true _
 obtain ⟨xo,cx',hve,-,-,-⟩:=hv.src
 subst hve
 clear cx
 go_enter Tryz.func3,Tryz.ntmps3
 go_wp2_with (first
  | (go_at_call 6;refine hL.mono ?_;clear hL;rintro e w1 ⟨g,cap,rfl,hcap,hg,hrow,b⟩;(have c1:=p1 _ w1 (lent_bytes hrow hcap) (kk _ _ hG b));clear p1)
  | (go_at_call 7;refine c1.mono ?_;clear c1;rintro e w2 ⟨s2,rfl,hs2,hb2⟩;(replace hrow:=hrow.below hb2 (block_lt_of_cell (hrow 0 (by omega)).1));(replace b:=below_next b hb2);clear hb2;(obtain ⟨⟨x2,m2,c2,rfl⟩,hcv2⟩:=hs2);(have c2:=p2 _ w2 (hv.still b));clear p2)
  | (go_at_call 8;refine c2.mono ?_;clear c2;rintro e w3 ⟨s3,rfl,hs3,hb3⟩;(replace hrow:=hrow.below hb3 (block_lt_of_cell (hrow 0 (by omega)).1));(replace b:=below_next b hb3);(obtain ⟨⟨x3,m3,c3,rfl⟩,hcv3⟩:=hs3);(have q2:=hcv2 w3 hb3);(have q3:=hcv3 w3 (Below.refl _ _));clear hcv2 hcv3 hb3;(have cS:=stays_any g cap n (.slice xo n cx') bs hbs w3 hn hcap hrow (hv.still b));clear hrow)
  | (go_at_call 9;refine (num7_any _ _).mono ?_;rintro e wn ⟨rfl,hwn⟩;subst hwn)
  | (go_at_call 10;refine cS.mono ?_;clear cS;rintro e w4 ⟨rfl,hb4⟩;(replace b:=below_next b hb4);(have cK:=hK w4 (kk _ _ hG b));clear hK hb4)
  | (go_at_call 11;refine cK.mono ?_;clear cK;rintro e w5 ⟨rfl,hb5⟩))
 go_ret
 exact ⟨rfl,below_next b hb5⟩
end Go.Proofs.YtdgkmloabificaaGreatDoor
namespace Go.Proofs.YtdgkmloabificaaGreatDoor
open Go.RowKit
def p16 (x y z t:Nat):List Value:=c4 x ++ (c4 y ++ (c4 z ++ c4 t))
def pV (x y z t:Nat):Value := .agg (p16 x y z t).toArray
theorem p16_len (x y z t:Nat):(p16 x y z t).length=16:=rfl
theorem p16_same (x y z t x' y' z' t':Nat):(p16 x y z t).length=(p16 x' y' z' t').length:=rfl
theorem zP_16:zP=(p16 0 0 0 0).toArray:=by kernel_rfl
theorem fresh16 (w:World):∃ w' g,w.alloc (.cells zP 53)=w'∧w.heap.size=g∧Below w.heap.size w w'∧RW w' g 0 (p16 0 0 0 0):=by
 refine ⟨_,_,rfl,rfl,(Below.refl _ _).alloc (Nat.le_refl _) _,?_⟩
 rw [zP_16];exact RW.fresh w _ _
theorem info16 (x y z t:Nat):(Tryz.prog.info? 53).map (·.size)=some (p16 x y z t).length:=infoPs
theorem info16A (x y z t:Nat):(Tryz.prog.info? 53).map (·.size)=some (p16 x y z t).toArray.size:=infoPs
theorem one16 (x y z t:Nat):(p16 x y z t).toArray.all (·.oneCell')=true:=by simp [p16,c4,Value.oneCell']
theorem thr16 {w:World} {g x y z t:Nat} (r:RW w g 0 (p16 x y z t)) (x' y' z' t':Nat):w.there g 0 (p16 x' y' z' t').toArray.size:=r.there
theorem parts16 {w:World} {g x y z t:Nat} (r:RW w g 0 (p16 x y z t)):RW w g 0 (c4 x)∧RW w g 4 (c4 y)∧RW w g 8 (c4 z)∧RW w g 12 (c4 t) :=
 ⟨RW.left r,RW.left (RW.right r),RW.left (RW.right (RW.right r)),RW.right (RW.right (RW.right r))⟩
theorem builtP4 (x y z t:Nat):Tryz.prog.built 53 [(0,numV x),(1,numV y),(2,numV z),(3,numV t)]=some (p16 x y z t).toArray:=by kernel_rfl
theorem builtP0:Tryz.prog.built 53 []=some (p16 0 0 0 0).toArray:=by kernel_rfl
theorem eq_num_at (w:World) (d:Nat) {a b:Nat} (ha:a<pF) (hb:b<pF):(Op.equalIn (d+3) 51 (numV a) (numV b)).run Tryz.prog w = .ok (decide (a=b)) w:=by
 unfold numV
 rw [show d+3=(d+2)+1 from rfl,run_equalIn_agg w (d+2) 51 _ _ (by kernel_rfl) (by kernel_rfl)]
 simp only [Program.fieldsOf,Tryz.underlying51,Op.eqFields]
 rw [if_pos (by decide)]
 simp only [Sem.run_bind]
 rw [part_num]
 simp only [Result.andThen_ok]
 rw [part_num]
 simp only [Result.andThen_ok]
 rw [run_eq4 w d 49 47 .u64 (by kernel_rfl) (by kernel_rfl) (by kernel_rfl)]
 simp only [Result.andThen_ok]
 by_cases h:a=b
 · subst h
   simp
 · have hn:((lw a 0:Int) == (lw b 0:Int) && (lw a 1:Int) == (lw b 1:Int) && (lw a 2:Int) == (lw b 2:Int) && (lw a 3:Int) == (lw b 3:Int))=false:=by
    rcases Bool.eq_false_or_eq_true ((lw a 0:Int) == (lw b 0:Int) && (lw a 1:Int) == (lw b 1:Int) && (lw a 2:Int) == (lw b 2:Int) && (lw a 3:Int) == (lw b 3:Int)) with e | e
    · exfalso
      simp only [Bool.and_eq_true,beq_iff_eq] at e
      exact h (lw_inj ha hb (by omega) (by omega) (by omega) (by omega))
    · exact e
   rw [hn,decide_eq_false h]
   simp
theorem part_p0 (w:World) (x y z t:Nat):(part 51 (p16 x y z t).toArray 0).run Tryz.prog w = .ok (numV x) w:=by kernel_rfl
theorem part_p1 (w:World) (x y z t:Nat):(part 51 (p16 x y z t).toArray 4).run Tryz.prog w = .ok (numV y) w:=by kernel_rfl
theorem part_p2 (w:World) (x y z t:Nat):(part 51 (p16 x y z t).toArray 8).run Tryz.prog w = .ok (numV z) w:=by kernel_rfl
theorem part_p3 (w:World) (x y z t:Nat):(part 51 (p16 x y z t).toArray 12).run Tryz.prog w = .ok (numV t) w:=by kernel_rfl
theorem eq_pt (w:World) {p q:N4} (hp:p.Ok) (hq:q.Ok):(Op.equalIn 10000 53 (pV p.X p.Y p.Z p.T) (pV q.X q.Y q.Z q.T)).run Tryz.prog w = .ok (decide (p.X=q.X) && decide (p.Y=q.Y) && decide (p.Z=q.Z) && decide (p.T=q.T)) w:=by
 unfold pV
 rw [show (10000:Nat)=9999+1 from rfl,run_equalIn_agg w 9999 53 _ _ (by kernel_rfl) (by kernel_rfl)]
 simp only [Program.fieldsOf,Tryz.underlying53,Op.eqFields]
 rw [show (9999:Nat)=9996+3 from rfl]
 simp only [Sem.run_bind,Sem.run_ite,part_p0,part_p1,part_p2,part_p3,Result.andThen_ok,eq_num_at w 9996 hp.X hq.X,eq_num_at w 9996 hp.Y hq.Y,eq_num_at w 9996 hp.Z hq.Z,eq_num_at w 9996 hp.T hq.T]
 cases h0:decide (p.X=q.X) <;> cases h1:decide (p.Y=q.Y) <;> cases h2:decide (p.Z=q.Z) <;> cases h3:decide (p.T=q.T) <;> simp
theorem exec_eqp (w:World) {p q:N4} (hp:p.Ok) (hq:q.Ok) (x y:Operand):(do eqGuard .eql 53 x y (pV p.X p.Y p.Z p.T) (pV q.X q.Y q.Z q.T);binOp .eql 53 (pV p.X p.Y p.Z p.T) (pV q.X q.Y q.Z q.T):Sem Value).run Tryz.prog w = .ok (.bool (decide (p.X=q.X) && decide (p.Y=q.Y) && decide (p.Z=q.Z) && decide (p.T=q.T))) w:=by
 rw [Sem.run_bind,show (eqGuard .eql 53 x y (pV p.X p.Y p.Z p.T) (pV q.X q.Y q.Z q.T)).run Tryz.prog w = .ok () w from run_eqGuard_agg w .eql 53 x y _ _ (by kernel_rfl)]
 simp only [Result.andThen_ok]
 rw [show (binOp .eql 53 (pV p.X p.Y p.Z p.T) (pV q.X q.Y q.Z q.T)).run Tryz.prog w=((Op.equalIn 10000 53 (pV p.X p.Y p.Z p.T) (pV q.X q.Y q.Z q.T)).run Tryz.prog w).andThen fun b w' => .ok (.bool b) w' from run_eql_struct w 53 _ _,eq_pt w hp hq]
 rfl
theorem wpList_eqp {ops:Array Oper} {rest:List Oper} {op:Oper} {a:Act} {w:World} {Q:Exit→Act→World→Prop} (hgd:op.guard=none) (x y:Operand) (t2:TypeId) (ho:op.op = .binOp .eql 53 x y t2) (p:N4) (hp:p.Ok)
 (hx:a.eval x = .agg (p16 p.X p.Y p.Z p.T).toArray) (hy:a.eval y = .agg (p16 0 0 0 0).toArray) (z:Bool) (hz:(decide (p.X=0) && decide (p.Y=0) && decide (p.Z=0) && decide (p.T=0))=z) (h:wpList Tryz.prog ops Q rest (a.put op.dst (.bool z)) w):wpList Tryz.prog ops Q (op :: rest) a w :=
 wpList_plain hgd fun K hK=>by
  have e:=exec_eqp w hp (q:=⟨0,0,0,0⟩) ⟨by decide,by decide,by decide,by decide⟩ x y
  unfold pV at e
  unfold Oper.wp execOp
  simp only [ho,hx,hy]
  rw [Sem.run_bind,e,hz]
  exact hK _ _ h
end Go.Proofs.YtdgkmloabificaaGreatDoor
namespace Go.Proofs.YtdgkmloabificaaGreatDoor
open Go.RowKit
set_option maxRecDepth 20000 in
set_option maxHeartbeats 4000000 in
theorem pnumber_any (v:Value) (n:Nat) (bs:Nat→Nat) (hbs:∀ j,bs j<256) (w:World) (hv:BytesIn w v n bs) :
 Calls Tryz.prog 61 #[v] w fun e w'=>e = .returned (numV (fromN n bs))∧Below w.heap.size w w':=by
 have cf:∀ W,BytesIn W v n bs→Calls Tryz.prog 101 #[v] W fun e w'=>e = .returned (.tuple #[.agg (c4 (fromN n bs)).toArray,.int .i64 (fromE n)])∧Below W.heap.size W w':=fun W h=>from_any v n bs hbs W h
 rw [show numV (fromN n bs) = .agg (c4 (fromN n bs)).toArray from rfl]
 generalize fromN n bs=m at *
 obtain ⟨W,g,eW,hg,b,h0⟩:=fresh4 w
 replace hv:=hv.still b
 have HW:Hid (w.alloc (.cells #[.int .u64 0,.int .u64 0,.int .u64 0,.int .u64 0] 51)=W):=Hid.mk' eW
 have Hg:Hid (w.heap.size=g):=Hid.mk' hg
 have wg:w.heap.size≤g:=Nat.le_of_eq hg
 clear eW hg
 go_enter Tryz.func61,Tryz.ntmps61
 go_wp2_with (first
  | (go_at_call 101;rw [HW.out,Hg.out];refine (cf _ hv).mono ?_;clear cf HW Hg;rintro e w1 ⟨rfl,hb1⟩;(have l0:=h0.lt);(replace h0:=h0.still hb1);(replace b:=below_next b hb1);(have n01:g≠w1.heap.size:=Nat.ne_of_lt (Nat.lt_of_lt_of_le l0 hb1.size));clear hb1 l0 hv;(have z1:=fresh4' w1);(have t1:=fresh4t w1 m);(obtain ⟨V1,hV1⟩:∃ V,V=(w1.alloc (.cells #[.int .u64 0,.int .u64 0,.int .u64 0,.int .u64 0] 51)).setCells w1.heap.size 0 (c4 m):=⟨_,rfl⟩);(have h1:RW V1 w1.heap.size 0 (c4 m):=by rw [hV1];exact z1.stored (c4 m) rfl);(have b1:Below w1.heap.size w1 V1:=by rw [hV1];exact below_setCells (Nat.le_refl _) _ _ _ ((Below.refl _ _).alloc (Nat.le_refl _) _));(have H1:=Hid.mk' hV1);clear hV1 z1;(replace h0:=h0.still b1);(replace b:=below_next b b1);clear b1;(have t0:V1.there g 0 (c4 m).toArray.size:=h0.there))
  | (with_reducible (refine id (?_:wpList _ _ _ _ _ _));refine wpList_store_mid rfl 51 _ _ rfl w1.heap.size 0 (c4 m).toArray rfl rfl t1 (info4a m) (one4 m) ?_;rw [List.toList_toArray,←H1.out];clear t1 H1)
  | (refine wpList_load_mid rfl 51 _ rfl w1.heap.size 0 rfl (c4 m) _ h1.range Tryz.underlying51 rfl info4 ?_)
  | (with_reducible (refine id (?_:wpList _ _ _ _ _ _));refine wpList_store_mid rfl 51 _ _ rfl g 0 (c4 m).toArray rfl rfl t0 (info4a m) (one4 m) ?_))
 (try simp only [Exit.inBlock,Exit.then])
 exact bodyPost_ret (results_cell_mid Tryz.results61 _ _ g 0 (c4 m) _ rfl (h0.stored (c4 m) rfl).range Tryz.underlying51 rfl info4) rfl ⟨rfl,below_setCells wg _ _ _ b⟩
end Go.Proofs.YtdgkmloabificaaGreatDoor
namespace Go.Proofs.YtdgkmloabificaaGreatDoor
open Go.RowKit
theorem row_bytes (w:World) (L:List Nat) (hL:L.length=32):BytesIn (w.alloc (.cells (L.map fun (b:Nat)=>Value.int .u8 (b:Int)).toArray 5)) (.slice (some ⟨w.heap.size,0,none⟩) 32 32) 32 (fun j=>L.getD j 0):=by
 refine .inr ⟨w.heap.size,0,32,rfl,by simp,Nat.le_refl _,fun j hj => ?_⟩
 have hr:=(RW.fresh w (L.map fun (b:Nat)=>Value.int .u8 (b:Int)) 5).range
 have h:=hr j (Value.int .u8 ((L.getD j 0:Nat):Int)) (by
  rw [List.getElem?_map,List.getElem?_eq_getElem (by omega)]
  simp [List.getD,List.getElem?_eq_getElem (show j<L.length by omega)])
 exact h
def curveDL:List Nat:=[163,120,89,19,202,77,235,117,171,216,65,65,77,10,112,0,152,232,121,119,121,64,199,140,115,254,111,43,238,108,3,82]
theorem curveDL_lt (j:Nat):curveDL.getD j 0<256:=by
 rcases Nat.lt_or_ge j 32 with h | h
 · revert h j;decide
 · rw [List.getD,List.getElem?_eq_none h];decide
theorem curveDL_is:fromN 32 (fun j=>curveDL.getD j 0)=dN:=by kernel_rfl
set_option maxRecDepth 20000 in
set_option maxHeartbeats 4000000 in
theorem curveD_any (w:World):Calls Tryz.prog 103 #[] w fun e w'=>e = .returned (numV dN)∧Below w.heap.size w w':=by
 have cn:∀ W v,BytesIn W v 32 (fun j=>curveDL.getD j 0)→Calls Tryz.prog 61 #[v] W fun e w'=>e = .returned (.agg (c4 dN).toArray)∧Below W.heap.size W w':=fun W v h=>by
  have k:=pnumber_any v 32 _ curveDL_lt W h
  rw [curveDL_is] at k
  exact k
 rw [show numV dN = .agg (c4 dN).toArray from rfl]
 generalize dN=m at *
 obtain ⟨W,g,eW,hg,b,h0⟩:=fresh4 w
 have hs:W.heap.size=w.heap.size+1:=by rw [←eW];simp
 have hv:BytesIn (W.alloc (.cells #[.int .u8 163,.int .u8 120,.int .u8 89,.int .u8 19,.int .u8 202,.int .u8 77,.int .u8 235,.int .u8 117,.int .u8 171,.int .u8 216,.int .u8 65,.int .u8 65,.int .u8 77,.int .u8 10,.int .u8 112,.int .u8 0,.int .u8 152,.int .u8 232,.int .u8 121,.int .u8 119,.int .u8 121,.int .u8 64,.int .u8 199,.int .u8 140,.int .u8 115,.int .u8 254,.int .u8 111,.int .u8 43,.int .u8 238,.int .u8 108,.int .u8 3,.int .u8 82] 5)) (.slice (some ⟨w.heap.size+1,0,none⟩) 32 32) 32 (fun j=>curveDL.getD j 0):=by rw [←hs];exact row_bytes W curveDL rfl
 obtain ⟨V,eV⟩:∃ V,W.alloc (.cells #[.int .u8 163,.int .u8 120,.int .u8 89,.int .u8 19,.int .u8 202,.int .u8 77,.int .u8 235,.int .u8 117,.int .u8 171,.int .u8 216,.int .u8 65,.int .u8 65,.int .u8 77,.int .u8 10,.int .u8 112,.int .u8 0,.int .u8 152,.int .u8 232,.int .u8 121,.int .u8 119,.int .u8 121,.int .u8 64,.int .u8 199,.int .u8 140,.int .u8 115,.int .u8 254,.int .u8 111,.int .u8 43,.int .u8 238,.int .u8 108,.int .u8 3,.int .u8 82] 5)=V:=⟨_,rfl⟩
 have bV:Below W.heap.size W V:=by rw [←eV];exact (Below.refl _ _).alloc (Nat.le_refl _) _
 rw [eV] at hv
 have HV:Hid ((w.alloc (.cells #[.int .u64 0,.int .u64 0,.int .u64 0,.int .u64 0] 51)).alloc (.cells #[.int .u8 163,.int .u8 120,.int .u8 89,.int .u8 19,.int .u8 202,.int .u8 77,.int .u8 235,.int .u8 117,.int .u8 171,.int .u8 216,.int .u8 65,.int .u8 65,.int .u8 77,.int .u8 10,.int .u8 112,.int .u8 0,.int .u8 152,.int .u8 232,.int .u8 121,.int .u8 119,.int .u8 121,.int .u8 64,.int .u8 199,.int .u8 140,.int .u8 115,.int .u8 254,.int .u8 111,.int .u8 43,.int .u8 238,.int .u8 108,.int .u8 3,.int .u8 82] 5)=V):=Hid.mk' (by rw [eW,eV])
 have Hg:Hid (w.heap.size=g):=Hid.mk' hg
 have wg:w.heap.size≤g:=Nat.le_of_eq hg
 replace h0:=h0.still bV
 replace b:=below_next b bV
 clear eW hg eV bV hs W
 go_enter Tryz.func103,Tryz.ntmps103
 go_wp2_with (first
  | (go_at_call 61;rw [HV.out];refine (cn _ _ hv).mono ?_;rw [Hg.out];clear cn HV Hg;rintro e w1 ⟨rfl,hb1⟩;(replace h0:=h0.still hb1);(replace b:=below_next b hb1);clear hb1;(have t0:w1.there g 0 (c4 m).toArray.size:=h0.there))
  | (with_reducible (refine id (?_:wpList _ _ _ _ _ _));refine wpList_store_mid rfl 51 _ _ rfl g 0 (c4 m).toArray rfl rfl t0 (info4a m) (one4 m) ?_))
 (try simp only [Exit.inBlock,Exit.then])
 exact bodyPost_ret (results_cell_mid Tryz.results103 _ _ g 0 (c4 m) _ rfl (h0.stored (c4 m) rfl).range Tryz.underlying51 rfl info4) rfl ⟨rfl,below_setCells wg _ _ _ b⟩
def baseXL:List Nat:=[26,213,37,143,96,45,86,201,178,167,37,149,96,199,44,105,92,220,214,253,49,226,164,192,254,83,110,205,211,54,105,33]
theorem baseXL_lt (j:Nat):baseXL.getD j 0<256:=by
 rcases Nat.lt_or_ge j 32 with h | h
 · revert h j;decide
 · rw [List.getD,List.getElem?_eq_none h];decide
theorem baseXL_is:fromN 32 (fun j=>baseXL.getD j 0)=xB:=by kernel_rfl
set_option maxRecDepth 20000 in
set_option maxHeartbeats 4000000 in
theorem baseX_any (w:World):Calls Tryz.prog 48 #[] w fun e w'=>e = .returned (numV xB)∧Below w.heap.size w w':=by
 have cn:∀ W v,BytesIn W v 32 (fun j=>baseXL.getD j 0)→Calls Tryz.prog 61 #[v] W fun e w'=>e = .returned (.agg (c4 xB).toArray)∧Below W.heap.size W w':=fun W v h=>by
  have k:=pnumber_any v 32 _ baseXL_lt W h
  rw [baseXL_is] at k
  exact k
 rw [show numV xB = .agg (c4 xB).toArray from rfl]
 generalize xB=m at *
 obtain ⟨W,g,eW,hg,b,h0⟩:=fresh4 w
 have hs:W.heap.size=w.heap.size+1:=by rw [←eW];simp
 have hv:BytesIn (W.alloc (.cells #[.int .u8 26,.int .u8 213,.int .u8 37,.int .u8 143,.int .u8 96,.int .u8 45,.int .u8 86,.int .u8 201,.int .u8 178,.int .u8 167,.int .u8 37,.int .u8 149,.int .u8 96,.int .u8 199,.int .u8 44,.int .u8 105,.int .u8 92,.int .u8 220,.int .u8 214,.int .u8 253,.int .u8 49,.int .u8 226,.int .u8 164,.int .u8 192,.int .u8 254,.int .u8 83,.int .u8 110,.int .u8 205,.int .u8 211,.int .u8 54,.int .u8 105,.int .u8 33] 5)) (.slice (some ⟨w.heap.size+1,0,none⟩) 32 32) 32 (fun j=>baseXL.getD j 0):=by rw [←hs];exact row_bytes W baseXL rfl
 obtain ⟨V,eV⟩:∃ V,W.alloc (.cells #[.int .u8 26,.int .u8 213,.int .u8 37,.int .u8 143,.int .u8 96,.int .u8 45,.int .u8 86,.int .u8 201,.int .u8 178,.int .u8 167,.int .u8 37,.int .u8 149,.int .u8 96,.int .u8 199,.int .u8 44,.int .u8 105,.int .u8 92,.int .u8 220,.int .u8 214,.int .u8 253,.int .u8 49,.int .u8 226,.int .u8 164,.int .u8 192,.int .u8 254,.int .u8 83,.int .u8 110,.int .u8 205,.int .u8 211,.int .u8 54,.int .u8 105,.int .u8 33] 5)=V:=⟨_,rfl⟩
 have bV:Below W.heap.size W V:=by rw [←eV];exact (Below.refl _ _).alloc (Nat.le_refl _) _
 rw [eV] at hv
 have HV:Hid ((w.alloc (.cells #[.int .u64 0,.int .u64 0,.int .u64 0,.int .u64 0] 51)).alloc (.cells #[.int .u8 26,.int .u8 213,.int .u8 37,.int .u8 143,.int .u8 96,.int .u8 45,.int .u8 86,.int .u8 201,.int .u8 178,.int .u8 167,.int .u8 37,.int .u8 149,.int .u8 96,.int .u8 199,.int .u8 44,.int .u8 105,.int .u8 92,.int .u8 220,.int .u8 214,.int .u8 253,.int .u8 49,.int .u8 226,.int .u8 164,.int .u8 192,.int .u8 254,.int .u8 83,.int .u8 110,.int .u8 205,.int .u8 211,.int .u8 54,.int .u8 105,.int .u8 33] 5)=V):=Hid.mk' (by rw [eW,eV])
 have Hg:Hid (w.heap.size=g):=Hid.mk' hg
 have wg:w.heap.size≤g:=Nat.le_of_eq hg
 replace h0:=h0.still bV
 replace b:=below_next b bV
 clear eW hg eV bV hs W
 go_enter Tryz.func48,Tryz.ntmps48
 go_wp2_with (first
  | (go_at_call 61;rw [HV.out];refine (cn _ _ hv).mono ?_;rw [Hg.out];clear cn HV Hg;rintro e w1 ⟨rfl,hb1⟩;(replace h0:=h0.still hb1);(replace b:=below_next b hb1);clear hb1;(have t0:w1.there g 0 (c4 m).toArray.size:=h0.there))
  | (with_reducible (refine id (?_:wpList _ _ _ _ _ _));refine wpList_store_mid rfl 51 _ _ rfl g 0 (c4 m).toArray rfl rfl t0 (info4a m) (one4 m) ?_))
 (try simp only [Exit.inBlock,Exit.then])
 exact bodyPost_ret (results_cell_mid Tryz.results48 _ _ g 0 (c4 m) _ rfl (h0.stored (c4 m) rfl).range Tryz.underlying51 rfl info4) rfl ⟨rfl,below_setCells wg _ _ _ b⟩
def baseYL:List Nat:=[88,102,102,102,102,102,102,102,102,102,102,102,102,102,102,102,102,102,102,102,102,102,102,102,102,102,102,102,102,102,102,102]
theorem baseYL_lt (j:Nat):baseYL.getD j 0<256:=by
 rcases Nat.lt_or_ge j 32 with h | h
 · revert h j;decide
 · rw [List.getD,List.getElem?_eq_none h];decide
theorem baseYL_is:fromN 32 (fun j=>baseYL.getD j 0)=yB:=by kernel_rfl
set_option maxRecDepth 20000 in
set_option maxHeartbeats 4000000 in
theorem baseY_any (w:World):Calls Tryz.prog 49 #[] w fun e w'=>e = .returned (numV yB)∧Below w.heap.size w w':=by
 have cn:∀ W v,BytesIn W v 32 (fun j=>baseYL.getD j 0)→Calls Tryz.prog 61 #[v] W fun e w'=>e = .returned (.agg (c4 yB).toArray)∧Below W.heap.size W w':=fun W v h=>by
  have k:=pnumber_any v 32 _ baseYL_lt W h
  rw [baseYL_is] at k
  exact k
 rw [show numV yB = .agg (c4 yB).toArray from rfl]
 generalize yB=m at *
 obtain ⟨W,g,eW,hg,b,h0⟩:=fresh4 w
 have hs:W.heap.size=w.heap.size+1:=by rw [←eW];simp
 have hv:BytesIn (W.alloc (.cells #[.int .u8 88,.int .u8 102,.int .u8 102,.int .u8 102,.int .u8 102,.int .u8 102,.int .u8 102,.int .u8 102,.int .u8 102,.int .u8 102,.int .u8 102,.int .u8 102,.int .u8 102,.int .u8 102,.int .u8 102,.int .u8 102,.int .u8 102,.int .u8 102,.int .u8 102,.int .u8 102,.int .u8 102,.int .u8 102,.int .u8 102,.int .u8 102,.int .u8 102,.int .u8 102,.int .u8 102,.int .u8 102,.int .u8 102,.int .u8 102,.int .u8 102,.int .u8 102] 5)) (.slice (some ⟨w.heap.size+1,0,none⟩) 32 32) 32 (fun j=>baseYL.getD j 0):=by rw [←hs];exact row_bytes W baseYL rfl
 obtain ⟨V,eV⟩:∃ V,W.alloc (.cells #[.int .u8 88,.int .u8 102,.int .u8 102,.int .u8 102,.int .u8 102,.int .u8 102,.int .u8 102,.int .u8 102,.int .u8 102,.int .u8 102,.int .u8 102,.int .u8 102,.int .u8 102,.int .u8 102,.int .u8 102,.int .u8 102,.int .u8 102,.int .u8 102,.int .u8 102,.int .u8 102,.int .u8 102,.int .u8 102,.int .u8 102,.int .u8 102,.int .u8 102,.int .u8 102,.int .u8 102,.int .u8 102,.int .u8 102,.int .u8 102,.int .u8 102,.int .u8 102] 5)=V:=⟨_,rfl⟩
 have bV:Below W.heap.size W V:=by rw [←eV];exact (Below.refl _ _).alloc (Nat.le_refl _) _
 rw [eV] at hv
 have HV:Hid ((w.alloc (.cells #[.int .u64 0,.int .u64 0,.int .u64 0,.int .u64 0] 51)).alloc (.cells #[.int .u8 88,.int .u8 102,.int .u8 102,.int .u8 102,.int .u8 102,.int .u8 102,.int .u8 102,.int .u8 102,.int .u8 102,.int .u8 102,.int .u8 102,.int .u8 102,.int .u8 102,.int .u8 102,.int .u8 102,.int .u8 102,.int .u8 102,.int .u8 102,.int .u8 102,.int .u8 102,.int .u8 102,.int .u8 102,.int .u8 102,.int .u8 102,.int .u8 102,.int .u8 102,.int .u8 102,.int .u8 102,.int .u8 102,.int .u8 102,.int .u8 102,.int .u8 102] 5)=V):=Hid.mk' (by rw [eW,eV])
 have Hg:Hid (w.heap.size=g):=Hid.mk' hg
 have wg:w.heap.size≤g:=Nat.le_of_eq hg
 replace h0:=h0.still bV
 replace b:=below_next b bV
 clear eW hg eV bV hs W
 go_enter Tryz.func49,Tryz.ntmps49
 go_wp2_with (first
  | (go_at_call 61;rw [HV.out];refine (cn _ _ hv).mono ?_;rw [Hg.out];clear cn HV Hg;rintro e w1 ⟨rfl,hb1⟩;(replace h0:=h0.still hb1);(replace b:=below_next b hb1);clear hb1;(have t0:w1.there g 0 (c4 m).toArray.size:=h0.there))
  | (with_reducible (refine id (?_:wpList _ _ _ _ _ _));refine wpList_store_mid rfl 51 _ _ rfl g 0 (c4 m).toArray rfl rfl t0 (info4a m) (one4 m) ?_))
 (try simp only [Exit.inBlock,Exit.then])
 exact bodyPost_ret (results_cell_mid Tryz.results49 _ _ g 0 (c4 m) _ rfl (h0.stored (c4 m) rfl).range Tryz.underlying51 rfl info4) rfl ⟨rfl,below_setCells wg _ _ _ b⟩
end Go.Proofs.YtdgkmloabificaaGreatDoor
