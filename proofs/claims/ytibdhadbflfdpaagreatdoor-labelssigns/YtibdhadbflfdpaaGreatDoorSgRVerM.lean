/- What the proof stands on: SgRVer, PCel, PNumb. -/
import Derived.Test.YtibdhadbflfdpaaGreatDoorPtEM
import Derived.Test.YtibdhadbflfdpaaGreatDoorRootQAM
import Derived.Test.YtibdhadbflfdpaaGreatDoorSgVerM
import Derived.Deep.Cut
namespace Go.Proofs.YtibdhadbflfdpaaGreatDoor
open Nat renaming le_refl → JW
open Nat renaming lt_of_lt_of_le → JX
open Go renaming wpAnyH_ready → J1
open Go renaming wpList_store_mid → J2
open Go renaming wpAnyH_done → J4
open Go.AllReadyH renaming nil → J6
open Go.AllReadyH renaming cons → J7
open Go.NoPanic renaming normal → J8
open Go.RowKit
theorem yd (v:Value) (bs:Nat→Nat) (w:World) (hbs:∀ j,bs j<256) (hv:ae w v 32 bs) (h:bv bs=none) :
 Calls Tryz.prog 57 #[v] w fun e w'=>∃ t:P4,e = .returned (.tuple #[.agg (aW t.X t.Y t.Z t.T).toArray,.int .i64 30])∧t.Pt dR∧Below w.heap.size w w' :=
 (yv v bs hbs w hv).mono fun e w' ⟨c,er,he,hb,hd⟩=>by
  rcases hd with ⟨rfl,hc,-⟩ | ⟨-,hs,-⟩
  · exact ⟨c,he,hc,hb⟩
  · rw [h] at hs;cases hs
theorem iN (v:Value) (bs:Nat→Nat) (w:World) (hbs:∀ j,bs j<256) (hv:ae w v 32 bs) (h:bv bs≠none) :
 Calls Tryz.prog 57 #[v] w fun e w'=>∃ (t:P4) (P:Fp × Fp),e = .returned (.tuple #[.agg (aW t.X t.Y t.Z t.T).toArray,.int .i64 0])∧t.Pt P∧(∀ j,j<32→da P j=bs j)∧Below w.heap.size w w' :=
 (yv v bs hbs w hv).mono fun e w' ⟨c,er,he,hb,hd⟩=>by
  rcases hd with ⟨-,-,hn⟩ | ⟨rfl,-,P,hP,eP⟩
  · exact absurd hn h
  · exact ⟨c,P,he,hP,eP,hb⟩
set_option maxRecDepth 20000 in
set_option maxHeartbeats 4000000 in
theorem us (p t s:Value) (n q:Nat) (ps ss:Nat→Nat) (w:World) (hp:ae w p n ps) (hs:ae w s q ss) (h:¬(n=32∧q=64)) :
 Calls Tryz.prog 27 #[p,t,s] w fun e w'=>e = .returned (.int .i64 1)∧w'=w:=by
 obtain ⟨xp,cp,rfl,-,-,-⟩:=hp.src;obtain ⟨xs,cs,rfl,-,-,-⟩:=hs.src;clear hp hs
 by_cases h1:n=32
 · have h2:¬((q:Int)=64):=by omega
   subst h1;go_enter Tryz.func27,Tryz.ntmps27;go_wp2;go_ret;exact ⟨rfl,rfl⟩
 · have h2:¬((n:Int)=32):=by omega
   go_enter Tryz.func27,Tryz.ntmps27;go_wp2;go_ret;exact ⟨rfl,rfl⟩
set_option maxRecDepth 20000 in
set_option maxHeartbeats 8000000 in
theorem uN (p t s:Value) (n:Nat) (ps ts ss:Nat→Nat) (hps:∀ j,ps j<256) (w:World) (hp:ae w p 32 ps) (ht:ae w t n ts) (hs:ae w s 64 ss) (hd:bv ps=none) :
 Calls Tryz.prog 27 #[p,t,s] w fun e w'=>e = .returned (.int .i64 (30))∧Below w.heap.size w w':=by
 have hz:=jd
 rcases hs with ⟨_,_,h⟩ | ⟨sb,so,sc,rfl,hsl,hsc,hcell⟩
 · omega
 have hs1:∀ W,Below w.heap.size w W→ae W (.slice (some ⟨sb,so,none⟩) 32 sc) 32 ss:=fun W hW => .inr ⟨sb,so,sc,rfl,JX hsl hW.size,by omega,fun j hj=>(hW.cell (p:=⟨sb,so+j,none⟩) hsl).trans (hcell j (by omega))⟩
 have hs2:∀ W,Below w.heap.size w W→ae W (.slice (some ⟨sb,so+32,none⟩) 32 (sc - 32)) 32 (fun j=>ss (32+j)):=fun W hW => .inr ⟨sb,so+32,sc - 32,rfl,JX hsl hW.size,by omega,fun j hj=>by
  have:=(hW.cell (p:=⟨sb,so+(32+j),none⟩) hsl).trans (hcell (32+j) (by omega));rw [←Nat.add_assoc] at this
  exact this⟩
 have i1:(64:Int)≤(sc:Int):=by omega
 have i2:(32:Int)≤(sc:Int):=by omega
 have i3:¬(sc=32):=by omega
 have i4:((sc:Int) - 32).toNat=sc - 32:=by omega
 have i5:sc - 0=sc:=rfl;obtain ⟨xp,cp,rfl,hpn,hpc,hpsrc⟩:=hp.src;obtain ⟨xt,ct,rfl,htn,htc,htsrc⟩:=ht.src;clear hpsrc htsrc hcell;have b:=Below.refl w.heap.size w;have cd:=yd (.slice xp 32 cp) ps w hps hp hd;go_enter Tryz.func27,Tryz.ntmps27
 go_wp2_with (first
  | (go_at_call 57;refine cd.mono ?_;clear cd;rintro e w1 ⟨t1,rfl,ht1,hb_⟩;(obtain ⟨V1,hV_,h1,b_,u1⟩:=mQ w1 t1);(have H1:=Hid.mk' hV_);clear hV_;(replace b:=aa (aa b hb_) b_);clear b_ hb_)
  | (with_reducible (refine id (?_:wpList _ _ _ _ _ _));refine J2 rfl 94 _ _ rfl w1.heap.size 0 (aW t1.X t1.Y t1.Z t1.T).toArray rfl rfl u1 (bt _ _ _ _) (eq _ _ _ _) ?_;rw [List.toList_toArray,←H1.out];clear u1 H1))
 go_ret;exact ⟨rfl,b⟩
set_option maxRecDepth 20000 in
set_option maxHeartbeats 8000000 in
theorem sS (p t s:Value) (n:Nat) (ps ts ss:Nat→Nat) (hps:∀ j,ps j<256) (hss:∀ j,ss j<256) (w:World) (hp:ae w p 32 ps) (ht:ae w t n ts) (hs:ae w s 64 ss) (hd:bv ps≠none) (hd2:bv ss=none) :
 Calls Tryz.prog 27 #[p,t,s] w fun e w'=>e = .returned (.int .i64 (31))∧Below w.heap.size w w':=by
 have hz:=jd
 rcases hs with ⟨_,_,h⟩ | ⟨sb,so,sc,rfl,hsl,hsc,hcell⟩
 · omega
 have hs1:∀ W,Below w.heap.size w W→ae W (.slice (some ⟨sb,so,none⟩) 32 sc) 32 ss:=fun W hW => .inr ⟨sb,so,sc,rfl,JX hsl hW.size,by omega,fun j hj=>(hW.cell (p:=⟨sb,so+j,none⟩) hsl).trans (hcell j (by omega))⟩
 have hs2:∀ W,Below w.heap.size w W→ae W (.slice (some ⟨sb,so+32,none⟩) 32 (sc - 32)) 32 (fun j=>ss (32+j)):=fun W hW => .inr ⟨sb,so+32,sc - 32,rfl,JX hsl hW.size,by omega,fun j hj=>by
  have:=(hW.cell (p:=⟨sb,so+(32+j),none⟩) hsl).trans (hcell (32+j) (by omega));rw [←Nat.add_assoc] at this
  exact this⟩
 have i1:(64:Int)≤(sc:Int):=by omega
 have i2:(32:Int)≤(sc:Int):=by omega
 have i3:¬(sc=32):=by omega
 have i4:((sc:Int) - 32).toNat=sc - 32:=by omega
 have i5:sc - 0=sc:=rfl;obtain ⟨xp,cp,rfl,hpn,hpc,hpsrc⟩:=hp.src;obtain ⟨xt,ct,rfl,htn,htc,htsrc⟩:=ht.src;clear hpsrc htsrc hcell;have b:=Below.refl w.heap.size w;have cd:=iN (.slice xp 32 cp) ps w hps hp hd
 have cdd:=fun W hW=>yd (.slice (some ⟨sb,so,none⟩) 32 sc) ss W hss (hs1 W hW) hd2
 go_enter Tryz.func27,Tryz.ntmps27
 go_wp2_with (first
  | (go_at_call 57;refine cd.mono ?_;clear cd;rintro e w1 ⟨t1,P1,rfl,hq1,e1,hb_⟩;(obtain ⟨V1,hV_,h1,b_,u1⟩:=mQ w1 t1);(have H1:=Hid.mk' hV_);clear hV_;(replace b:=aa (aa b hb_) b_);clear b_ hb_;(have cd2:=cdd V1 b);clear cdd)
  | (with_reducible (refine id (?_:wpList _ _ _ _ _ _));refine J2 rfl 94 _ _ rfl w1.heap.size 0 (aW t1.X t1.Y t1.Z t1.T).toArray rfl rfl u1 (bt _ _ _ _) (eq _ _ _ _) ?_;rw [List.toList_toArray,←H1.out];clear u1 H1)
  | (go_at_call 57;refine cd2.mono ?_;clear cd2;rintro e w2 ⟨t2,rfl,hq2,hb_⟩;(obtain ⟨V2,hV_,h2,b_,u2⟩:=mQ w2 t2);(have H2:=Hid.mk' hV_);clear hV_;(replace b:=aa (aa b hb_) b_);clear b_ hb_)
  | (with_reducible (refine id (?_:wpList _ _ _ _ _ _));refine J2 rfl 94 _ _ rfl w2.heap.size 0 (aW t2.X t2.Y t2.Z t2.T).toArray rfl rfl u2 (bt _ _ _ _) (eq _ _ _ _) ?_;rw [List.toList_toArray,←H2.out];clear u2 H2))
 go_ret;exact ⟨rfl,b⟩
set_option maxRecDepth 20000 in
set_option maxHeartbeats 8000000 in
theorem rP (p t s:Value) (n:Nat) (ps ts ss:Nat→Nat) (hps:∀ j,ps j<256) (hss:∀ j,ss j<256) (w:World) (hp:ae w p 32 ps) (ht:ae w t n ts) (hs:ae w s 64 ss) (hd:bv ps≠none) (hd2:bv ss≠none) (hl:¬tG ss<oL) :
 Calls Tryz.prog 27 #[p,t,s] w fun e w'=>e = .returned (.int .i64 (31))∧Below w.heap.size w w':=by
 have hz:=jd;have hca:gA (fun j=>ss (32+j))=false:=decide_eq_false hl
 rcases hs with ⟨_,_,h⟩ | ⟨sb,so,sc,rfl,hsl,hsc,hcell⟩
 · omega
 have hs1:∀ W,Below w.heap.size w W→ae W (.slice (some ⟨sb,so,none⟩) 32 sc) 32 ss:=fun W hW => .inr ⟨sb,so,sc,rfl,JX hsl hW.size,by omega,fun j hj=>(hW.cell (p:=⟨sb,so+j,none⟩) hsl).trans (hcell j (by omega))⟩
 have hs2:∀ W,Below w.heap.size w W→ae W (.slice (some ⟨sb,so+32,none⟩) 32 (sc - 32)) 32 (fun j=>ss (32+j)):=fun W hW => .inr ⟨sb,so+32,sc - 32,rfl,JX hsl hW.size,by omega,fun j hj=>by
  have:=(hW.cell (p:=⟨sb,so+(32+j),none⟩) hsl).trans (hcell (32+j) (by omega));rw [←Nat.add_assoc] at this
  exact this⟩
 have i1:(64:Int)≤(sc:Int):=by omega
 have i2:(32:Int)≤(sc:Int):=by omega
 have i3:¬(sc=32):=by omega
 have i4:((sc:Int) - 32).toNat=sc - 32:=by omega
 have i5:sc - 0=sc:=rfl;obtain ⟨xp,cp,rfl,hpn,hpc,hpsrc⟩:=hp.src;obtain ⟨xt,ct,rfl,htn,htc,htsrc⟩:=ht.src;clear hpsrc htsrc hcell;have b:=Below.refl w.heap.size w;have cd:=iN (.slice xp 32 cp) ps w hps hp hd
 have cdd:=fun W hW=>iN (.slice (some ⟨sb,so,none⟩) 32 sc) ss W hss (hs1 W hW) hd2
 go_enter Tryz.func27,Tryz.ntmps27
 go_wp2_with (first
  | (go_at_call 57;refine cd.mono ?_;clear cd;rintro e w1 ⟨t1,P1,rfl,hq1,e1,hb_⟩;(obtain ⟨V1,hV_,h1,b_,u1⟩:=mQ w1 t1);(have H1:=Hid.mk' hV_);clear hV_;(replace b:=aa (aa b hb_) b_);clear b_ hb_;(have cd2:=cdd V1 b);clear cdd)
  | (with_reducible (refine id (?_:wpList _ _ _ _ _ _));refine J2 rfl 94 _ _ rfl w1.heap.size 0 (aW t1.X t1.Y t1.Z t1.T).toArray rfl rfl u1 (bt _ _ _ _) (eq _ _ _ _) ?_;rw [List.toList_toArray,←H1.out];clear u1 H1)
  | (go_at_call 57;refine cd2.mono ?_;clear cd2;rintro e w2 ⟨t2,P2,rfl,hq2,e2,hb_⟩;(obtain ⟨V2,hV_,h2,b_,u2⟩:=mQ w2 t2);(have H2:=Hid.mk' hV_);clear hV_;(replace h1:=(h1.still hb_).still b_);(replace b:=aa (aa b hb_) b_);clear b_ hb_;(have cc:=iv (.slice (some ⟨sb,so+32,none⟩) 32 (sc - 32)) (fun j=>ss (32+j)) (fun j=>hss _) V2 (hs2 V2 b));rw [hca] at cc)
  | (with_reducible (refine id (?_:wpList _ _ _ _ _ _));refine J2 rfl 94 _ _ rfl w2.heap.size 0 (aW t2.X t2.Y t2.Z t2.T).toArray rfl rfl u2 (bt _ _ _ _) (eq _ _ _ _) ?_;rw [List.toList_toArray,←H2.out];clear u2 H2)
  | (go_at_call 58;refine cc.mono ?_;clear cc;rintro e w3 ⟨rfl,hb3⟩;(replace h1:=h1.still hb3);(replace h2:=h2.still hb3);(replace b:=aa b hb3);clear hb3))
 go_ret;exact ⟨rfl,b⟩
set_option maxRecDepth 20000 in
set_option maxHeartbeats 8000000 in
theorem sE (p t s:Value) (n:Nat) (ps ts ss:Nat→Nat) (hps:∀ j,ps j<256) (hts:∀ j,ts j<256) (hss:∀ j,ss j<256) (hn:n<140737488352000) (w:World) (hp:ae w p 32 ps) (ht:ae w t n ts) (hs:ae w s 64 ss) (hd:bv ps≠none) (hd2:bv ss≠none) (hl:tG ss<oL) :
 Calls Tryz.prog 27 #[p,t,s] w fun e w'=>e = .returned (.int .i64 (j8 32 ps n ts 64 ss))∧Below w.heap.size w w':=by
 have hz:=jd;have hca:gA (fun j=>ss (32+j))=true:=decide_eq_true hl
 have hver:=fun P Q hP hQ eP eQ=>uT (m:=n) (t:=ts) hd hd2 hl (P:=P) (Q:=Q) hP hQ eP eQ
 generalize hres:j8 32 ps n ts 64 ss=res at *
 rcases hs with ⟨_,_,h⟩ | ⟨sb,so,sc,rfl,hsl,hsc,hcell⟩
 · omega
 have hs1:∀ W,Below w.heap.size w W→ae W (.slice (some ⟨sb,so,none⟩) 32 sc) 32 ss:=fun W hW => .inr ⟨sb,so,sc,rfl,JX hsl hW.size,by omega,fun j hj=>(hW.cell (p:=⟨sb,so+j,none⟩) hsl).trans (hcell j (by omega))⟩
 have hs2:∀ W,Below w.heap.size w W→ae W (.slice (some ⟨sb,so+32,none⟩) 32 (sc - 32)) 32 (fun j=>ss (32+j)):=fun W hW => .inr ⟨sb,so+32,sc - 32,rfl,JX hsl hW.size,by omega,fun j hj=>by
  have:=(hW.cell (p:=⟨sb,so+(32+j),none⟩) hsl).trans (hcell (32+j) (by omega));rw [←Nat.add_assoc] at this
  exact this⟩
 have i1:(64:Int)≤(sc:Int):=by omega
 have i2:(32:Int)≤(sc:Int):=by omega
 have i3:¬(sc=32):=by omega
 have i4:((sc:Int) - 32).toNat=sc - 32:=by omega
 have i5:sc - 0=sc:=rfl;obtain ⟨xp,cp,rfl,hpn,hpc,hpsrc⟩:=hp.src;obtain ⟨xt,ct,rfl,htn,htc,htsrc⟩:=ht.src;clear hpsrc htsrc hcell;have b:=Below.refl w.heap.size w;have cd:=iN (.slice xp 32 cp) ps w hps hp hd
 have cdd:=fun W hW=>iN (.slice (some ⟨sb,so,none⟩) 32 sc) ss W hss (hs1 W hW) hd2
 have ch:∀ W,Below w.heap.size w W→Calls Tryz.prog 49 #[.slice (some ⟨sb,so,none⟩) 32 sc,.slice xp 32 cp,.slice xt n ct] W fun e w'=>∃ s,e = .returned s∧ae w' s 32 (bf (kN ss ps n ts))∧Below W.heap.size W w':=fun W hW=>ms _ _ _ 32 32 n ss ps ts hss hps hts W (hs1 W hW) (hp.still hW) (ht.still hW) (by omega)
 have ctm:∀ (r:P4) P v W,r.Pt P→ae W v 32 (bf (kN ss ps n ts))→Calls Tryz.prog 59 #[.agg (aW r.X r.Y r.Z r.T).toArray,v] W fun e w'=>∃ t:P4,e = .returned (.tuple #[.agg (aW t.X t.Y t.Z t.T).toArray,.int .i64 0])∧t.Pt (cK dE (kN ss ps n ts) P)∧Below W.heap.size W w':=fun r P v W hr hv=>by
  have h:=qn hr v (bf (kN ss ps n ts)) (dD _) W hv;rw [yQ] at h;exact h
 have cD:∀ W,Calls Tryz.prog 61 #[] W fun e w'=>∃ R,e = .returned (.agg (aD R).toArray)∧Rw R dN∧Below W.heap.size W w':=fun W=>xG W
 have cpl:∀ (r q:P4) P Q D W,r.Pt P→q.Pt Q→Rw D dN→Calls Tryz.prog 60 #[.agg (aW r.X r.Y r.Z r.T).toArray,.agg (aW q.X q.Y q.Z q.T).toArray,.agg (aD D).toArray] W fun e w'=>∃ t:P4,e = .returned (.agg (aW t.X t.Y t.Z t.T).toArray)∧t.Pt (dc dE P Q)∧Below W.heap.size W w':=fun r q P Q D W hr hq hD=>Cy hr hq hD W
 have cb:∀ W,Below w.heap.size w W→Calls Tryz.prog 50 #[.slice (some ⟨sb,so+32,none⟩) 32 (sc - 32)] W fun e w'=>∃ g cap,e = .returned (.slice (some ⟨g,0,none⟩) 32 cap)∧32≤cap∧ah .u8 w' g 0 32 (da (bP (tG ss)))∧Below W.heap.size W w':=fun W hW=>nT _ (fun j=>ss (32+j)) (fun j=>hss _) W (hs2 W hW)
 have ce:∀ (r:P4) P W,r.Pt P→Calls Tryz.prog 62 #[.agg (aW r.X r.Y r.Z r.T).toArray] W fun e w'=>∃ s,e = .returned s∧gv W w' s 32 (da P)∧Below W.heap.size W w':=fun r P W hr=>yK hr W
 have onS:On dE (bP (tG ss)):=ie gG sV _;generalize bP (tG ss)=PS at *;generalize kN ss ps n ts=kn at *;clear hl hd hd2 hps hts;go_enter Tryz.func27,Tryz.ntmps27
 go_upto_region 9 with (first
  | (go_at_call 57;refine cd.mono ?_;clear cd;rintro e w1 ⟨t1,P1,rfl,hq1,e1,hb_⟩;(obtain ⟨V1,hV_,h1,b_,u1⟩:=mQ w1 t1);(have H1:=Hid.mk' hV_);clear hV_;(replace b:=aa (aa b hb_) b_);clear b_ hb_;(have cd2:=cdd V1 b);clear cdd)
  | (with_reducible (refine id (?_:wpList _ _ _ _ _ _));refine J2 rfl 94 _ _ rfl w1.heap.size 0 (aW t1.X t1.Y t1.Z t1.T).toArray rfl rfl u1 (bt _ _ _ _) (eq _ _ _ _) ?_;rw [List.toList_toArray,←H1.out];clear u1 H1)
  | (go_at_call 57;refine cd2.mono ?_;clear cd2;rintro e w2 ⟨t2,P2,rfl,hq2,e2,hb_⟩;(obtain ⟨V2,hV_,h2,b_,u2⟩:=mQ w2 t2);(have H2:=Hid.mk' hV_);clear hV_;(replace h1:=(h1.still hb_).still b_);(replace b:=aa (aa b hb_) b_);clear b_ hb_;(have cc:=iv (.slice (some ⟨sb,so+32,none⟩) 32 (sc - 32)) (fun j=>ss (32+j)) (fun j=>hss _) V2 (hs2 V2 b));rw [hca] at cc)
  | (with_reducible (refine id (?_:wpList _ _ _ _ _ _));refine J2 rfl 94 _ _ rfl w2.heap.size 0 (aW t2.X t2.Y t2.Z t2.T).toArray rfl rfl u2 (bt _ _ _ _) (eq _ _ _ _) ?_;rw [List.toList_toArray,←H2.out];clear u2 H2)
  | (go_at_call 58;refine cc.mono ?_;clear cc;rintro e w3 ⟨rfl,hb3⟩;(replace h1:=h1.still hb3);(replace h2:=h2.still hb3);(replace b:=aa b hb3);clear hb3))
 (try dsimp only [Act.put]);generalize hg1:w1.heap.size=g1 at *;generalize hg2:w2.heap.size=g2 at *;clear hg1 hg2 hss hp ht hs1 hs2
 go_cut [11] from 14 (fun s11 wc=>∃ (g11:Nat) (t11:P4),s11 = .pointer (some ⟨g11,0,none⟩)∧t11.Pt (cK dE kn P1)∧Below w3.heap.size w3 wc∧w3.heap.size≤g11∧RW wc g11 0 (aW t11.X t11.Y t11.Z t11.T))
 case first =>
  have hdrew:Below w3.heap.size w3 w3.drew:=(Below.refl _ _).drew;replace h1:=h1.still hdrew;replace b:=aa b hdrew;have hd0:=hdrew.size;clear h2;refine wp_region_noPanic ?_;refine wp_region_held_drew (S:=fun w'=>Below w3.drew.heap.size w3.drew w') (by kernel_rfl) (Below.refl _ _) (fun hS => ?_);generalize w3.drew=Va at *;refine tk 0 (.agg (aW t1.X t1.Y t1.Z t1.T).toArray) hS (hy:=(d9 h1 94 7 Tryz.underlying94 (dQ _ _ _ _))) (h := ?_);(try simp only [pS]);refine tg 1 hS ?_;(try simp only [pS]);refine yu 2 (oN 46 (Op.slice 22 (oT 45) none (some (Operand.const (Value.int IntKind.i64 32))) none) 22 "ref.go:73" #[jD 1]) (.slice (some ⟨sb,so,none⟩) 32 sc) hS (Or.inl ⟨by rfl,?ha2⟩) ?ra2
  case ha2 =>
   intro u hu;go_simp
   try with_reducible rfl
  (try simp only [pS]);refine tg 3 hS ?_;(try simp only [pS]);refine tg 4 hS ?_;(try simp only [pS]);clear h1;refine J1 (rs:=[5,10]) (by kernel_rfl) (by simp) ?_;refine dr (oN 49 (dA 49 #[oT 46,oT 47,oT 48] #[22,22,22]) 22 "ref.go:73" #[jD 2,jD 3,jD 4]) (ch Va (b.trans (hS.mono b.size))) ?_ (GM (cs:=zQ) (t:=94) (oN 11 (Op.alloc 94) 0 "ref.go:73" #[]) ?_ (J6))
  · rintro e wa1 ⟨s5,rfl,hs5,hba1⟩
    replace hS:=aa hS hba1;clear hba1;refine ⟨_,rfl,hS,?_⟩;(try simp only [pS]);refine J1 (rs:=[6,10]) (by kernel_rfl) (by simp) ?_;refine dr (oN 50 (dA 59 #[oT 44,oT 49] #[94,22]) 95 "ref.go:73" #[jD 0,jD 5,jC 5]) (ctm t1 P1 s5 wa1 hq1 hs5) ?_ (GM (cs:=zQ) (t:=94) (oN 11 (Op.alloc 94) 0 "ref.go:73" #[]) ?_ (J6))
    · rintro e wa2 ⟨t6,rfl,hq6,hba2⟩
      replace hS:=aa hS hba2;replace hs5:=hs5.still hba2;clear hba2;refine ⟨_,rfl,hS,?_⟩;(try simp only [pS]);refine tg 7 hS ?_;(try simp only [pS]);refine tg 8 hS ?_;(try simp only [pS]);refine tg 9 hS ?_;(try simp only [pS]);refine J1 (rs:=[10]) (by kernel_rfl) (by simp) ?_;refine GM (cs:=zQ) (t:=94) (oN 11 (Op.alloc 94) 0 "ref.go:73" #[]) ?_ (J6)
      obtain ⟨wa3,ea3,ba3,za3⟩:∃ U,wa2.alloc (.cells zQ 94)=U∧Below wa2.heap.size wa2 U∧RW U wa2.heap.size 0 (aW (fun _=>0) (fun _=>0) (fun _=>0) (fun _=>0)):=⟨_,rfl,(Below.refl _ _).alloc (JW _) _,eT wa2⟩
      rw [ea3];have Ga3:Va.heap.size≤wa2.heap.size:=hS.size;replace hS:=aa hS ba3;replace hs5:=hs5.still ba3;clear ea3 ba3;refine ⟨hS,?_⟩;(try simp only [pS]);refine J1 (rs:=[11]) (by kernel_rfl) (by simp) ?_;refine J7 (o:=oS (Op.store 94 (oT 11) (oT 51)) "ref.go:73" #[jD 10,jD 8,jC 6,jP 0,jP 1,jP 2,jP 3,jP 4,jP 5,jP 6,jP 7,jP 8,jT 9,jP 10]) rfl (fun K hK => ?_) J6;rw [if_pos (by rfl)];refine wp_store_mid 94 _ _ rfl (wa2.heap.size) 0 (aW t6.X t6.Y t6.Z t6.T).toArray rfl rfl (bj za3) (bt _ _ _ _) (eq _ _ _ _) ?_;replace hS:=ac Ga3 (aW t6.X t6.Y t6.Z t6.T) 0 _ hS;replace za3:=za3.stored (aW t6.X t6.Y t6.Z t6.T) (bk _ _ _ _ _ _ _ _);rw [List.toList_toArray];refine hK.out _ _ hS (fun h => ?_);clear h hK K;(try dsimp only [Act.put]);refine tg 12 hS ?_;(try simp only [pS]);refine J4 (by kernel_rfl) ?_ _;refine J8 ?_;go_wp2;go_meet
      case rel=>exact ⟨wa2.heap.size,t6,rfl,hq6,hdrew.trans (hS.mono hd0),Nat.le_trans hd0 Ga3,za3⟩
    · obtain ⟨wa5,ea5,ba5,za5⟩:∃ U,wa1.alloc (.cells zQ 94)=U∧Below wa1.heap.size wa1 U∧RW U wa1.heap.size 0 (aW (fun _=>0) (fun _=>0) (fun _=>0) (fun _=>0)):=⟨_,rfl,(Below.refl _ _).alloc (JW _) _,eT wa1⟩
      rw [ea5];have Ga5:Va.heap.size≤wa1.heap.size:=hS.size;replace hS:=aa hS ba5;replace hs5:=hs5.still ba5;clear ea5 ba5;refine ⟨hS,?_⟩;(try simp only [pS]);refine J1 (rs:=[6]) (by kernel_rfl) (by simp) ?_;refine dr (oN 50 (dA 59 #[oT 44,oT 49] #[94,22]) 95 "ref.go:73" #[jD 0,jD 5,jC 5]) (ctm t1 P1 s5 wa5 hq1 hs5) ?_ (J6);rintro e wa6 ⟨t6,rfl,hq6,hba6⟩;replace hS:=aa hS hba6;replace hs5:=hs5.still hba6;replace za5:=za5.still hba6;clear hba6;refine ⟨_,rfl,hS,?_⟩;(try simp only [pS]);refine tg 7 hS ?_;(try simp only [pS]);refine tg 8 hS ?_;(try simp only [pS]);refine tg 9 hS ?_;(try simp only [pS]);refine J1 (rs:=[11]) (by kernel_rfl) (by simp) ?_;refine J7 (o:=oS (Op.store 94 (oT 11) (oT 51)) "ref.go:73" #[jD 10,jD 8,jC 6,jP 0,jP 1,jP 2,jP 3,jP 4,jP 5,jP 6,jP 7,jP 8,jT 9,jP 10]) rfl (fun K hK => ?_) J6;rw [if_pos (by rfl)];refine wp_store_mid 94 _ _ rfl (wa1.heap.size) 0 (aW t6.X t6.Y t6.Z t6.T).toArray rfl rfl (bj za5) (bt _ _ _ _) (eq _ _ _ _) ?_;replace hS:=ac Ga5 (aW t6.X t6.Y t6.Z t6.T) 0 _ hS;replace za5:=za5.stored (aW t6.X t6.Y t6.Z t6.T) (bk _ _ _ _ _ _ _ _);rw [List.toList_toArray];refine hK.out _ _ hS (fun h => ?_);clear h hK K;(try dsimp only [Act.put]);refine tg 12 hS ?_;(try simp only [pS]);refine J4 (by kernel_rfl) ?_ _;refine J8 ?_;go_wp2;go_meet
      case rel=>exact ⟨wa1.heap.size,t6,rfl,hq6,hdrew.trans (hS.mono hd0),Nat.le_trans hd0 Ga5,za5⟩
  · obtain ⟨wa8,ea8,ba8,za8⟩:∃ U,Va.alloc (.cells zQ 94)=U∧Below Va.heap.size Va U∧RW U Va.heap.size 0 (aW (fun _=>0) (fun _=>0) (fun _=>0) (fun _=>0)):=⟨_,rfl,(Below.refl _ _).alloc (JW _) _,eT Va⟩
    rw [ea8];have Ga8:Va.heap.size≤Va.heap.size:=hS.size;replace hS:=aa hS ba8;clear ea8 ba8;refine ⟨hS,?_⟩;(try simp only [pS]);refine J1 (rs:=[5]) (by kernel_rfl) (by simp) ?_;refine dr (oN 49 (dA 49 #[oT 46,oT 47,oT 48] #[22,22,22]) 22 "ref.go:73" #[jD 2,jD 3,jD 4]) (ch wa8 (b.trans (hS.mono b.size))) ?_ (J6);rintro e wa9 ⟨s5,rfl,hs5,hba9⟩;replace hS:=aa hS hba9;replace za8:=za8.still hba9;clear hba9;refine ⟨_,rfl,hS,?_⟩;(try simp only [pS]);refine J1 (rs:=[6]) (by kernel_rfl) (by simp) ?_;refine dr (oN 50 (dA 59 #[oT 44,oT 49] #[94,22]) 95 "ref.go:73" #[jD 0,jD 5,jC 5]) (ctm t1 P1 s5 wa9 hq1 hs5) ?_ (J6);rintro e wa10 ⟨t6,rfl,hq6,hba10⟩;replace hS:=aa hS hba10;replace hs5:=hs5.still hba10;replace za8:=za8.still hba10;clear hba10;refine ⟨_,rfl,hS,?_⟩;(try simp only [pS]);refine tg 7 hS ?_;(try simp only [pS]);refine tg 8 hS ?_;(try simp only [pS]);refine tg 9 hS ?_;(try simp only [pS]);refine J1 (rs:=[11]) (by kernel_rfl) (by simp) ?_;refine J7 (o:=oS (Op.store 94 (oT 11) (oT 51)) "ref.go:73" #[jD 10,jD 8,jC 6,jP 0,jP 1,jP 2,jP 3,jP 4,jP 5,jP 6,jP 7,jP 8,jT 9,jP 10]) rfl (fun K hK => ?_) J6;rw [if_pos (by rfl)];refine wp_store_mid 94 _ _ rfl (Va.heap.size) 0 (aW t6.X t6.Y t6.Z t6.T).toArray rfl rfl (bj za8) (bt _ _ _ _) (eq _ _ _ _) ?_;replace hS:=ac Ga8 (aW t6.X t6.Y t6.Z t6.T) 0 _ hS;replace za8:=za8.stored (aW t6.X t6.Y t6.Z t6.T) (bk _ _ _ _ _ _ _ _);rw [List.toList_toArray];refine hK.out _ _ hS (fun h => ?_);clear h hK K;(try dsimp only [Act.put]);refine tg 12 hS ?_;(try simp only [pS]);refine J4 (by kernel_rfl) ?_ _;refine J8 ?_;go_wp2;go_meet
    case rel=>exact ⟨Va.heap.size,t6,rfl,hq6,hdrew.trans (hS.mono hd0),Nat.le_trans hd0 Ga8,za8⟩
 case rest =>
 obtain ⟨g11,t11,rfl,hq11,hb11,G11,h11⟩:=hcut
 obtain ⟨Wc,hWc⟩:∃ W,W=wc:=⟨_,rfl⟩
 subst hWc;replace h2:=h2.still hb11;replace b:=aa b hb11;clear hb11 ch ctm;generalize hK1:cK dE kn P1=PK at *
 go_upto_region 10 with (fail)
 go_cut [13] from 14 (fun s13 wd=>∃ (g13:Nat) (t13:P4),s13 = .pointer (some ⟨g13,0,none⟩)∧t13.Pt (dc dE P2 PK)∧Below Wc.heap.size Wc wd∧RW wd g13 0 (aW t13.X t13.Y t13.Z t13.T))
 case first =>
  have hdrew:Below Wc.heap.size Wc Wc.drew:=(Below.refl _ _).drew;replace h2:=h2.still hdrew;replace h11:=h11.still hdrew;have hd0:=hdrew.size;refine wp_region_noPanic ?_;refine wp_region_held_drew (S:=fun w'=>Below Wc.drew.heap.size Wc.drew w') (by kernel_rfl) (Below.refl _ _) (fun hS => ?_);generalize Wc.drew=Vc at *;refine tk 0 (.agg (aW t2.X t2.Y t2.Z t2.T).toArray) hS (hy:=(d9 h2 94 9 Tryz.underlying94 (dQ _ _ _ _))) (h := ?_);(try simp only [pS]);refine tk 1 (.agg (aW t11.X t11.Y t11.Z t11.T).toArray) hS (hy:=(d9 h11 94 11 Tryz.underlying94 (dQ _ _ _ _))) (h := ?_);(try simp only [pS]);clear h2 h11;refine J1 (rs:=[2,4]) (by kernel_rfl) (by simp) ?_;refine dr (oN 55 (dA 61 #[] #[]) 92 "ref.go:74" #[]) (cD Vc) ?_ (GM (cs:=zQ) (t:=94) (oN 13 (Op.alloc 94) 0 "ref.go:74" #[]) ?_ (J6))
  · rintro e wc12 ⟨DL,rfl,hDL,hbc12⟩
    replace hS:=aa hS hbc12;clear hbc12;refine ⟨_,rfl,hS,?_⟩;(try simp only [pS]);refine J1 (rs:=[3,4]) (by kernel_rfl) (by simp) ?_;refine dr (oN 56 (dA 60 #[oT 53,oT 54,oT 55] #[94,94,92]) 94 "ref.go:74" #[jD 0,jD 1,jD 2,jC 2]) (cpl t2 t11 P2 PK DL wc12 hq2 hq11 hDL) ?_ (GM (cs:=zQ) (t:=94) (oN 13 (Op.alloc 94) 0 "ref.go:74" #[]) ?_ (J6))
    · rintro e wc13 ⟨t6,rfl,hq6,hbc13⟩
      replace hS:=aa hS hbc13;clear hbc13;refine ⟨_,rfl,hS,?_⟩;(try simp only [pS]);refine J1 (rs:=[4]) (by kernel_rfl) (by simp) ?_;refine GM (cs:=zQ) (t:=94) (oN 13 (Op.alloc 94) 0 "ref.go:74" #[]) ?_ (J6)
      obtain ⟨wc14,ec14,bc14,zc14⟩:∃ U,wc13.alloc (.cells zQ 94)=U∧Below wc13.heap.size wc13 U∧RW U wc13.heap.size 0 (aW (fun _=>0) (fun _=>0) (fun _=>0) (fun _=>0)):=⟨_,rfl,(Below.refl _ _).alloc (JW _) _,eT wc13⟩
      rw [ec14];have Gc14:Vc.heap.size≤wc13.heap.size:=hS.size;replace hS:=aa hS bc14;clear ec14 bc14;refine ⟨hS,?_⟩;(try simp only [pS]);refine J1 (rs:=[5]) (by kernel_rfl) (by simp) ?_;refine J7 (o:=oS (Op.store 94 (oT 13) (oT 56)) "ref.go:74" #[jD 4,jD 3,jC 3,jP 0,jP 1,jP 2,jP 3,jP 4]) rfl (fun K hK => ?_) J6;rw [if_pos (by rfl)];refine wp_store_mid 94 _ _ rfl (wc13.heap.size) 0 (aW t6.X t6.Y t6.Z t6.T).toArray rfl rfl (bj zc14) (bt _ _ _ _) (eq _ _ _ _) ?_;replace hS:=ac Gc14 (aW t6.X t6.Y t6.Z t6.T) 0 _ hS;replace zc14:=zc14.stored (aW t6.X t6.Y t6.Z t6.T) (bk _ _ _ _ _ _ _ _);rw [List.toList_toArray];refine hK.out _ _ hS (fun h => ?_);clear h hK K;(try dsimp only [Act.put]);refine J4 (by kernel_rfl) ?_ _;refine J8 ?_;go_wp2;go_meet
      case rel=>exact ⟨wc13.heap.size,t6,rfl,hq6,hdrew.trans (hS.mono hd0),zc14⟩
    · obtain ⟨wc16,ec16,bc16,zc16⟩:∃ U,wc12.alloc (.cells zQ 94)=U∧Below wc12.heap.size wc12 U∧RW U wc12.heap.size 0 (aW (fun _=>0) (fun _=>0) (fun _=>0) (fun _=>0)):=⟨_,rfl,(Below.refl _ _).alloc (JW _) _,eT wc12⟩
      rw [ec16];have Gc16:Vc.heap.size≤wc12.heap.size:=hS.size;replace hS:=aa hS bc16;clear ec16 bc16;refine ⟨hS,?_⟩;(try simp only [pS]);refine J1 (rs:=[3]) (by kernel_rfl) (by simp) ?_;refine dr (oN 56 (dA 60 #[oT 53,oT 54,oT 55] #[94,94,92]) 94 "ref.go:74" #[jD 0,jD 1,jD 2,jC 2]) (cpl t2 t11 P2 PK DL wc16 hq2 hq11 hDL) ?_ (J6);rintro e wc17 ⟨t6,rfl,hq6,hbc17⟩;replace hS:=aa hS hbc17;replace zc16:=zc16.still hbc17;clear hbc17;refine ⟨_,rfl,hS,?_⟩;(try simp only [pS]);refine J1 (rs:=[5]) (by kernel_rfl) (by simp) ?_;refine J7 (o:=oS (Op.store 94 (oT 13) (oT 56)) "ref.go:74" #[jD 4,jD 3,jC 3,jP 0,jP 1,jP 2,jP 3,jP 4]) rfl (fun K hK => ?_) J6;rw [if_pos (by rfl)];refine wp_store_mid 94 _ _ rfl (wc12.heap.size) 0 (aW t6.X t6.Y t6.Z t6.T).toArray rfl rfl (bj zc16) (bt _ _ _ _) (eq _ _ _ _) ?_;replace hS:=ac Gc16 (aW t6.X t6.Y t6.Z t6.T) 0 _ hS;replace zc16:=zc16.stored (aW t6.X t6.Y t6.Z t6.T) (bk _ _ _ _ _ _ _ _);rw [List.toList_toArray];refine hK.out _ _ hS (fun h => ?_);clear h hK K;(try dsimp only [Act.put]);refine J4 (by kernel_rfl) ?_ _;refine J8 ?_;go_wp2;go_meet
      case rel=>exact ⟨wc12.heap.size,t6,rfl,hq6,hdrew.trans (hS.mono hd0),zc16⟩
  · obtain ⟨wc19,ec19,bc19,zc19⟩:∃ U,Vc.alloc (.cells zQ 94)=U∧Below Vc.heap.size Vc U∧RW U Vc.heap.size 0 (aW (fun _=>0) (fun _=>0) (fun _=>0) (fun _=>0)):=⟨_,rfl,(Below.refl _ _).alloc (JW _) _,eT Vc⟩
    rw [ec19];have Gc19:Vc.heap.size≤Vc.heap.size:=hS.size;replace hS:=aa hS bc19;clear ec19 bc19;refine ⟨hS,?_⟩;(try simp only [pS]);refine J1 (rs:=[2]) (by kernel_rfl) (by simp) ?_;refine dr (oN 55 (dA 61 #[] #[]) 92 "ref.go:74" #[]) (cD wc19) ?_ (J6);rintro e wc20 ⟨DL,rfl,hDL,hbc20⟩;replace hS:=aa hS hbc20;replace zc19:=zc19.still hbc20;clear hbc20;refine ⟨_,rfl,hS,?_⟩;(try simp only [pS]);refine J1 (rs:=[3]) (by kernel_rfl) (by simp) ?_;refine dr (oN 56 (dA 60 #[oT 53,oT 54,oT 55] #[94,94,92]) 94 "ref.go:74" #[jD 0,jD 1,jD 2,jC 2]) (cpl t2 t11 P2 PK DL wc20 hq2 hq11 hDL) ?_ (J6);rintro e wc21 ⟨t6,rfl,hq6,hbc21⟩;replace hS:=aa hS hbc21;replace zc19:=zc19.still hbc21;clear hbc21;refine ⟨_,rfl,hS,?_⟩;(try simp only [pS]);refine J1 (rs:=[5]) (by kernel_rfl) (by simp) ?_;refine J7 (o:=oS (Op.store 94 (oT 13) (oT 56)) "ref.go:74" #[jD 4,jD 3,jC 3,jP 0,jP 1,jP 2,jP 3,jP 4]) rfl (fun K hK => ?_) J6;rw [if_pos (by rfl)];refine wp_store_mid 94 _ _ rfl (Vc.heap.size) 0 (aW t6.X t6.Y t6.Z t6.T).toArray rfl rfl (bj zc19) (bt _ _ _ _) (eq _ _ _ _) ?_;replace hS:=ac Gc19 (aW t6.X t6.Y t6.Z t6.T) 0 _ hS;replace zc19:=zc19.stored (aW t6.X t6.Y t6.Z t6.T) (bk _ _ _ _ _ _ _ _);rw [List.toList_toArray];refine hK.out _ _ hS (fun h => ?_);clear h hK K;(try dsimp only [Act.put]);refine J4 (by kernel_rfl) ?_ _;refine J8 ?_;go_wp2;go_meet
    case rel=>exact ⟨Vc.heap.size,t6,rfl,hq6,hdrew.trans (hS.mono hd0),zc19⟩
 case rest =>
 obtain ⟨g13,t13,rfl,hq13,hb13,h13⟩:=hcut;replace b:=aa b hb13;clear hb13 cD cpl h2 h11;have hv:=hver P1 P2 hq1.1 hq2.1 e1 e2;have onK:=hq13.1
 have cE:=fun W=>ce t13 _ W hq13
 clear ce hver hq13;generalize hPK:dc dE P2 PK=PE at *;have z1:=Em onS onK
 go_upto_region 11 with (fail)
 replace h13:=h13.drew;replace b:=aa b ((Below.refl wc.heap.size wc).drew);refine wp_region_noPanic ?_;refine wp_region_held_drew (S:=fun w'=>Below wc.drew.heap.size wc.drew w') (by kernel_rfl) (Below.refl _ _) (fun hS => ?_);clear hS;generalize wc.drew=U at *;refine tg 0 bR ?_;(try simp only [pS]);refine yu 1 (oN 58 (Op.slice 22 (oT 57) (some (Operand.const (Value.int IntKind.i64 32))) none none) 22 "ref.go:75" #[jD 0]) (.slice (some ⟨sb,so+32,none⟩) 32 (sc - 32)) bR (Or.inl ⟨by rfl,?he1⟩) ?re1
 case he1 =>
  intro u hu;go_simp
  try with_reducible rfl
 (try simp only [pS]);refine tk 4 (.agg (aW t13.X t13.Y t13.Z t13.T).toArray) bR (hy:=(d9 h13 94 13 Tryz.underlying94 (dQ _ _ _ _))) (h := ?_);(try simp only [pS]);clear h13;refine cn 2 (cb U b) ?_;rintro e w5 ⟨g5,k5,rfl,hk5,hr5,hb5⟩;refine ⟨_,rfl,hb5,?_⟩;replace b:=aa b hb5;have s5:=iL.of (hJ hr5 (JW _) (by decide) hk5) (eS _);clear hb5 hr5 cb;(try simp only [pS]);refine yu 3 (oN 60 (Op.convert 22 9 (oT 59)) 9 "ref.go:75" #[jD 2]) (.string (bF 32 (da PS))) bR (Or.inl ⟨by rfl,?he3⟩) ?re3
 case he3 =>
  intro u hu;have q:=s5.conv u hu;go_simp
  try with_reducible rfl
 (try simp only [pS]);refine cn 5 (cE w5) ?_;rintro e w6 ⟨s6,rfl,hn6,hb6⟩;refine ⟨_,rfl,hb6,?_⟩;replace b:=aa b hb6;obtain ⟨g6,k6,rfl,hk6,-,hr6⟩:=hn6;have s6:=iL.of (hJ hr6 (JW _) (by decide) hk6) (eS _);clear hb6 hr6 cE s5;(try simp only [pS]);refine yu 6 (oN 63 (Op.convert 22 9 (oT 62)) 9 "ref.go:75" #[jD 5]) (.string (bF 32 (da PE))) bR (Or.inl ⟨by rfl,?he6⟩) ?re6
 case he6 =>
  intro u hu;have q:=s6.conv u hu;go_simp
  try with_reducible rfl
 (try simp only [pS]);generalize bF 32 (da PS)=X1 at *;generalize bF 32 (da PE)=X2 at *;refine tg 7 bR ?_;(try simp only [pS]);refine J4 (by kernel_rfl) ?_ _;refine J8 ?_;rw [hK1,hPK] at hv;clear hK1 hPK
 by_cases e:PS=PE
 · rw [if_pos e] at hv
   subst hv;rw [show (!decide (PS=PE))=false by rw [decide_eq_true e];rfl];go_wp2;go_ret;exact ⟨rfl,b⟩
 · rw [if_neg e] at hv
   subst hv;rw [show (!decide (PS=PE))=true by rw [decide_eq_false e];rfl];go_wp2;go_ret;exact ⟨rfl,b⟩
theorem uh (p t s:Value) (np n q:Nat) (ps ts ss:Nat→Nat) (hps:∀ j,ps j<256) (hts:∀ j,ts j<256) (hss:∀ j,ss j<256) (hn:n<140737488352000) (w:World) (hp:ae w p np ps) (ht:ae w t n ts) (hs:ae w s q ss) :
 Calls Tryz.prog 27 #[p,t,s] w fun e w'=>e = .returned (.int .i64 (j8 np ps n ts q ss))∧Below w.heap.size w w':=by
 by_cases h:np=32∧q=64
 · obtain ⟨rfl,rfl⟩:=h
   by_cases hd:bv ps=none
   · rw [vK hd]
     exact uN p t s n ps ts ss hps w hp ht hs hd
   · by_cases hd2:bv ss=none
     · rw [kZ hd (.inl hd2)]
       exact sS p t s n ps ts ss hps hss w hp ht hs hd hd2
     · by_cases hl:tG ss<oL
       · exact sE p t s n ps ts ss hps hts hss hn w hp ht hs hd hd2 hl
       · rw [kZ hd (.inr hl)]
         exact rP p t s n ps ts ss hps hss w hp ht hs hd hd2 hl
 · rw [ue h]
   exact (us p t s np q ps ss w hp hs h).mono fun e w' ⟨he,hw⟩=>⟨he,by rw [hw];exact Below.refl _ _⟩
def aw (x y z t:Nat):List Value:=c4 x ++ (c4 y ++ (c4 z ++ c4 t))
def pV (x y z t:Nat):Value := .agg (aw x y z t).toArray
theorem kG (x y z t:Nat):(aw x y z t).length=16:=rfl
theorem et (x y z t x' y' z' t':Nat):(aw x y z t).length=(aw x' y' z' t').length:=rfl
theorem IQ:zP=(aw 0 0 0 0).toArray:=by kernel_rfl
theorem dM (w:World):∃ w' g,w.alloc (.cells zP 77)=w'∧w.heap.size=g∧Below w.heap.size w w'∧RW w' g 0 (aw 0 0 0 0):=by
 refine ⟨_,_,rfl,rfl,(Below.refl _ _).alloc (JW _) _,?_⟩;rw [IQ];exact RW.fresh w _ _
theorem bi (x y z t:Nat):(Tryz.prog.info? 77).map (·.size)=some (aw x y z t).length:=rK
theorem a7 (x y z t:Nat):(Tryz.prog.info? 77).map (·.size)=some (aw x y z t).toArray.size:=rK
theorem bJ (x y z t:Nat):(aw x y z t).toArray.all (·.oneCell')=true:=by simp [aw,c4,Value.oneCell']
theorem ej {w:World} {g x y z t:Nat} (r:RW w g 0 (aw x y z t)) (x' y' z' t':Nat):w.there g 0 (aw x' y' z' t').toArray.size:=r.there
theorem jp {w:World} {g x y z t:Nat} (r:RW w g 0 (aw x y z t)):RW w g 0 (c4 x)∧RW w g 4 (c4 y)∧RW w g 8 (c4 z)∧RW w g 12 (c4 t) :=
 ⟨RW.left r,RW.left (RW.right r),RW.left (RW.right (RW.right r)),RW.right (RW.right (RW.right r))⟩
theorem yA (x y z t:Nat):Tryz.prog.built 77 [(0,ag x),(1,ag y),(2,ag z),(3,ag t)]=some (aw x y z t).toArray:=by kernel_rfl
theorem gc:Tryz.prog.built 77 []=some (aw 0 0 0 0).toArray:=by kernel_rfl
theorem jm (w:World) (d:Nat) {a b:Nat} (ha:a<pF) (hb:b<pF):(Op.equalIn (d+3) 75 (ag a) (ag b)).run Tryz.prog w = .ok (decide (a=b)) w:=by
 unfold ag;rw [show d+3=(d+2)+1 from rfl,run_equalIn_agg w (d+2) 75 _ _ (by kernel_rfl) (by kernel_rfl)];simp only [Program.fieldsOf,Tryz.underlying75,Op.eqFields];rw [if_pos (by decide)];simp only [Sem.run_bind];rw [lz];simp only [Result.andThen_ok];rw [lz];simp only [Result.andThen_ok];rw [xV w d 73 71 .u64 (by kernel_rfl) (by kernel_rfl) (by kernel_rfl)];simp only [Result.andThen_ok]
 by_cases h:a=b
 · subst h
   simp
 · have hn:((lw a 0:Int) == (lw b 0:Int) && (lw a 1:Int) == (lw b 1:Int) && (lw a 2:Int) == (lw b 2:Int) && (lw a 3:Int) == (lw b 3:Int))=false:=by
    rcases Bool.eq_false_or_eq_true ((lw a 0:Int) == (lw b 0:Int) && (lw a 1:Int) == (lw b 1:Int) && (lw a 2:Int) == (lw b 2:Int) && (lw a 3:Int) == (lw b 3:Int)) with e | e
    · exfalso
      simp only [Bool.and_eq_true,beq_iff_eq] at e;exact h (Cn ha hb (by omega) (by omega) (by omega) (by omega))
    · exact e
   rw [hn,decide_eq_false h];simp
theorem EV (w:World) (x y z t:Nat):(part 75 (aw x y z t).toArray 0).run Tryz.prog w = .ok (ag x) w:=by kernel_rfl
theorem D2 (w:World) (x y z t:Nat):(part 75 (aw x y z t).toArray 4).run Tryz.prog w = .ok (ag y) w:=by kernel_rfl
theorem DS (w:World) (x y z t:Nat):(part 75 (aw x y z t).toArray 8).run Tryz.prog w = .ok (ag z) w:=by kernel_rfl
theorem EM (w:World) (x y z t:Nat):(part 75 (aw x y z t).toArray 12).run Tryz.prog w = .ok (ag t) w:=by kernel_rfl
theorem IL (w:World) {p q:N4} (hp:p.Ok) (hq:q.Ok):(Op.equalIn 10000 77 (pV p.X p.Y p.Z p.T) (pV q.X q.Y q.Z q.T)).run Tryz.prog w = .ok (decide (p.X=q.X) && decide (p.Y=q.Y) && decide (p.Z=q.Z) && decide (p.T=q.T)) w:=by
 unfold pV;rw [show (10000:Nat)=9999+1 from rfl,run_equalIn_agg w 9999 77 _ _ (by kernel_rfl) (by kernel_rfl)];simp only [Program.fieldsOf,Tryz.underlying77,Op.eqFields];rw [show (9999:Nat)=9996+3 from rfl];simp only [Sem.run_bind,Sem.run_ite,EV,D2,DS,EM,Result.andThen_ok,jm w 9996 hp.X hq.X,jm w 9996 hp.Y hq.Y,jm w 9996 hp.Z hq.Z,jm w 9996 hp.T hq.T]
 cases h0:decide (p.X=q.X) <;> cases h1:decide (p.Y=q.Y) <;> cases h2:decide (p.Z=q.Z) <;> cases h3:decide (p.T=q.T) <;> simp
theorem Dk (w:World) {p q:N4} (hp:p.Ok) (hq:q.Ok) (x y:Operand):(do eqGuard .eql 77 x y (pV p.X p.Y p.Z p.T) (pV q.X q.Y q.Z q.T);binOp .eql 77 (pV p.X p.Y p.Z p.T) (pV q.X q.Y q.Z q.T):Sem Value).run Tryz.prog w = .ok (.bool (decide (p.X=q.X) && decide (p.Y=q.Y) && decide (p.Z=q.Z) && decide (p.T=q.T))) w:=by
 rw [Sem.run_bind,show (eqGuard .eql 77 x y (pV p.X p.Y p.Z p.T) (pV q.X q.Y q.Z q.T)).run Tryz.prog w = .ok () w from run_eqGuard_agg w .eql 77 x y _ _ (by kernel_rfl)];simp only [Result.andThen_ok];rw [show (binOp .eql 77 (pV p.X p.Y p.Z p.T) (pV q.X q.Y q.Z q.T)).run Tryz.prog w=((Op.equalIn 10000 77 (pV p.X p.Y p.Z p.T) (pV q.X q.Y q.Z q.T)).run Tryz.prog w).andThen fun b w' => .ok (.bool b) w' from run_eql_struct w 77 _ _,IL w hp hq];rfl
theorem oe {ops:Array Oper} {rest:List Oper} {op:Oper} {a:Act} {w:World} {Q:Exit→Act→World→Prop} (hgd:op.guard=none) (x y:Operand) (t2:TypeId) (ho:op.op = .binOp .eql 77 x y t2) (p:N4) (hp:p.Ok)
 (hx:a.eval x = .agg (aw p.X p.Y p.Z p.T).toArray) (hy:a.eval y = .agg (aw 0 0 0 0).toArray) (z:Bool) (hz:(decide (p.X=0) && decide (p.Y=0) && decide (p.Z=0) && decide (p.T=0))=z) (h:wpList Tryz.prog ops Q rest (a.put op.dst (.bool z)) w):wpList Tryz.prog ops Q (op :: rest) a w :=
 wpList_plain hgd fun K hK=>by
  have e:=Dk w hp (q:=⟨0,0,0,0⟩) ⟨by decide,by decide,by decide,by decide⟩ x y;unfold pV at e;unfold Oper.wp execOp;simp only [ho,hx,hy];rw [Sem.run_bind,e,hz];exact hK _ _ h
set_option maxRecDepth 20000 in
set_option maxHeartbeats 4000000 in
theorem fd (v:Value) (n:Nat) (bs:Nat→Nat) (hbs:∀ j,bs j<256) (w:World) (hv:ae w v n bs) :
 Calls Tryz.prog 110 #[v] w fun e w'=>e = .returned (ag (fV n bs))∧Below w.heap.size w w':=by
 have cf:∀ W,ae W v n bs→Calls Tryz.prog 172 #[v] W fun e w'=>e = .returned (.tuple #[.agg (c4 (fV n bs)).toArray,.int .i64 (BI n)])∧Below W.heap.size W w':=fun W h=>pk v n bs hbs W h
 rw [show ag (fV n bs) = .agg (c4 (fV n bs)).toArray from rfl];generalize fV n bs=m at *;obtain ⟨W,g,eW,hg,b,h0⟩:=cL w;replace hv:=hv.still b;have HW:Hid (w.alloc (.cells #[.int .u64 0,.int .u64 0,.int .u64 0,.int .u64 0] 75)=W):=Hid.mk' eW;have Hg:Hid (w.heap.size=g):=Hid.mk' hg;have wg:w.heap.size≤g:=Nat.le_of_eq hg;clear eW hg;go_enter Tryz.func110,Tryz.ntmps110
 go_wp2_with (first
  | (go_at_call 172;rw [HW.out,Hg.out];refine (cf _ hv).mono ?_;clear cf HW Hg;rintro e w1 ⟨rfl,hb1⟩;(have l0:=h0.lt);(replace h0:=h0.still hb1);(replace b:=aa b hb1);(have n01:g≠w1.heap.size:=Nat.ne_of_lt (JX l0 hb1.size));clear hb1 l0 hv;(have z1:=gj w1);(have t1:=jh w1 m);(obtain ⟨V1,hV1⟩:∃ V,V=(w1.alloc (.cells #[.int .u64 0,.int .u64 0,.int .u64 0,.int .u64 0] 75)).setCells w1.heap.size 0 (c4 m):=⟨_,rfl⟩);(have h1:RW V1 w1.heap.size 0 (c4 m):=by rw [hV1];exact z1.stored (c4 m) rfl);(have b1:Below w1.heap.size w1 V1:=by rw [hV1];exact ac (JW _) _ _ _ ((Below.refl _ _).alloc (JW _) _));(have H1:=Hid.mk' hV1);clear hV1 z1;(replace h0:=h0.still b1);(replace b:=aa b b1);clear b1;(have t0:V1.there g 0 (c4 m).toArray.size:=h0.there))
  | (with_reducible (refine id (?_:wpList _ _ _ _ _ _));refine J2 rfl 75 _ _ rfl w1.heap.size 0 (c4 m).toArray rfl rfl t1 (cN m) (fS m) ?_;rw [List.toList_toArray,←H1.out];clear t1 H1)
  | (refine wpList_load_mid rfl 75 _ rfl w1.heap.size 0 rfl (c4 m) _ h1.range Tryz.underlying75 rfl aE ?_)
  | (with_reducible (refine id (?_:wpList _ _ _ _ _ _));refine J2 rfl 75 _ _ rfl g 0 (c4 m).toArray rfl rfl t0 (cN m) (fS m) ?_))
 (try simp only [Exit.inBlock,Exit.then]);exact bodyPost_ret (ai Tryz.results110 _ _ g 0 (c4 m) _ rfl (h0.stored (c4 m) rfl).range Tryz.underlying75 rfl aE) rfl ⟨rfl,ac wg _ _ _ b⟩
end Go.Proofs.YtibdhadbflfdpaaGreatDoor
