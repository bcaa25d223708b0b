/- What the proof stands on: SgRVer, SgVers. -/
import Derived.Test.YtdgkmloabificaaGreatDoorRMulM
import Derived.Test.YtdgkmloabificaaGreatDoorRRatioM
import Derived.Deep.Cut
namespace Go.Proofs.YtdgkmloabificaaGreatDoor
open Go.RowKit
theorem rdec_no (v:Value) (bs:Nat→Nat) (w:World) (hbs:∀ j,bs j<256) (hv:BytesIn w v 32 bs) (h:decN bs=none) :
 Calls Tryz.prog 31 #[v] w fun e w'=>∃ t:P4,e = .returned (.tuple #[.agg (q64 t.X t.Y t.Z t.T).toArray,.int .i64 30])∧t.Pt ezero∧Below w.heap.size w w' :=
 (rdec_pt v bs hbs w hv).mono fun e w' ⟨c,er,he,hb,hd⟩=>by
  rcases hd with ⟨rfl,hc,-⟩ | ⟨-,hs,-⟩
  · exact ⟨c,he,hc,hb⟩
  · rw [h] at hs;cases hs
theorem rdec_yes (v:Value) (bs:Nat→Nat) (w:World) (hbs:∀ j,bs j<256) (hv:BytesIn w v 32 bs) (h:decN bs≠none) :
 Calls Tryz.prog 31 #[v] w fun e w'=>∃ (t:P4) (P:Fp × Fp),e = .returned (.tuple #[.agg (q64 t.X t.Y t.Z t.T).toArray,.int .i64 0])∧t.Pt P∧(∀ j,j<32→encB P j=bs j)∧Below w.heap.size w w' :=
 (rdec_pt v bs hbs w hv).mono fun e w' ⟨c,er,he,hb,hd⟩=>by
  rcases hd with ⟨-,-,hn⟩ | ⟨rfl,-,P,hP,eP⟩
  · exact absurd hn h
  · exact ⟨c,P,he,hP,eP,hb⟩
set_option maxRecDepth 20000 in
set_option maxHeartbeats 4000000 in
theorem rverify_arg (p t s:Value) (n q:Nat) (ps ss:Nat→Nat) (w:World) (hp:BytesIn w p n ps) (hs:BytesIn w s q ss) (h:¬(n=32∧q=64)) :
 Calls Tryz.prog 15 #[p,t,s] w fun e w'=>e = .returned (.int .i64 1)∧w'=w:=by
 obtain ⟨xp,cp,rfl,-,-,-⟩:=hp.src
 obtain ⟨xs,cs,rfl,-,-,-⟩:=hs.src
 clear hp hs
 by_cases h1:n=32
 · have h2:¬((q:Int)=64):=by omega
   subst h1
   go_enter Tryz.func15,Tryz.ntmps15
   go_wp2
   go_ret
   exact ⟨rfl,rfl⟩
 · have h2:¬((n:Int)=32):=by omega
   go_enter Tryz.func15,Tryz.ntmps15
   go_wp2
   go_ret
   exact ⟨rfl,rfl⟩
set_option maxRecDepth 20000 in
set_option maxHeartbeats 8000000 in
theorem rverify_pub (p t s:Value) (n:Nat) (ps ts ss:Nat→Nat) (hps:∀ j,ps j<256) (w:World) (hp:BytesIn w p 32 ps) (ht:BytesIn w t n ts) (hs:BytesIn w s 64 ss) (hd:decN ps=none) :
 Calls Tryz.prog 15 #[p,t,s] w fun e w'=>e = .returned (.int .i64 (30))∧Below w.heap.size w w':=by
 have hz:=zeroQ
 rcases hs with ⟨_,_,h⟩ | ⟨sb,so,sc,rfl,hsl,hsc,hcell⟩
 · omega
 have hs1:∀ W,Below w.heap.size w W→BytesIn W (.slice (some ⟨sb,so,none⟩) 32 sc) 32 ss:=fun W hW => .inr ⟨sb,so,sc,rfl,Nat.lt_of_lt_of_le hsl hW.size,by omega,fun j hj=>(hW.cell (p:=⟨sb,so+j,none⟩) hsl).trans (hcell j (by omega))⟩
 have hs2:∀ W,Below w.heap.size w W→BytesIn W (.slice (some ⟨sb,so+32,none⟩) 32 (sc - 32)) 32 (fun j=>ss (32+j)):=fun W hW => .inr ⟨sb,so+32,sc - 32,rfl,Nat.lt_of_lt_of_le hsl hW.size,by omega,fun j hj=>by
  have:=(hW.cell (p:=⟨sb,so+(32+j),none⟩) hsl).trans (hcell (32+j) (by omega))
  rw [←Nat.add_assoc] at this
  exact this⟩
 have i1:(64:Int)≤(sc:Int):=by omega
 have i2:(32:Int)≤(sc:Int):=by omega
 have i3:¬(sc=32):=by omega
 have i4:((sc:Int) - 32).toNat=sc - 32:=by omega
 have i5:sc - 0=sc:=rfl
 obtain ⟨xp,cp,rfl,hpn,hpc,hpsrc⟩:=hp.src
 obtain ⟨xt,ct,rfl,htn,htc,htsrc⟩:=ht.src
 clear hpsrc htsrc hcell
 have b:=Below.refl w.heap.size w
 have cd:=rdec_no (.slice xp 32 cp) ps w hps hp hd
 go_enter Tryz.func15,Tryz.ntmps15
 go_wp2_with (first
  | (go_at_call 31;refine cd.mono ?_;clear cd;rintro e w1 ⟨t1,rfl,ht1,hb_⟩;(obtain ⟨V1,hV_,h1,b_,u1⟩:=boxQ7 w1 t1);(have H1:=Hid.mk' hV_);clear hV_;(replace b:=below_next (below_next b hb_) b_);clear b_ hb_)
  | (with_reducible (refine id (?_:wpList _ _ _ _ _ _));refine wpList_store_mid rfl 68 _ _ rfl w1.heap.size 0 (q64 t1.X t1.Y t1.Z t1.T).toArray rfl rfl u1 (infoQA _ _ _ _) (oneQ _ _ _ _) ?_;rw [List.toList_toArray,←H1.out];clear u1 H1))
 go_ret
 exact ⟨rfl,b⟩
set_option maxRecDepth 20000 in
set_option maxHeartbeats 8000000 in
theorem rverify_sig1 (p t s:Value) (n:Nat) (ps ts ss:Nat→Nat) (hps:∀ j,ps j<256) (hss:∀ j,ss j<256) (w:World) (hp:BytesIn w p 32 ps) (ht:BytesIn w t n ts) (hs:BytesIn w s 64 ss) (hd:decN ps≠none) (hd2:decN ss=none) :
 Calls Tryz.prog 15 #[p,t,s] w fun e w'=>e = .returned (.int .i64 (31))∧Below w.heap.size w w':=by
 have hz:=zeroQ
 rcases hs with ⟨_,_,h⟩ | ⟨sb,so,sc,rfl,hsl,hsc,hcell⟩
 · omega
 have hs1:∀ W,Below w.heap.size w W→BytesIn W (.slice (some ⟨sb,so,none⟩) 32 sc) 32 ss:=fun W hW => .inr ⟨sb,so,sc,rfl,Nat.lt_of_lt_of_le hsl hW.size,by omega,fun j hj=>(hW.cell (p:=⟨sb,so+j,none⟩) hsl).trans (hcell j (by omega))⟩
 have hs2:∀ W,Below w.heap.size w W→BytesIn W (.slice (some ⟨sb,so+32,none⟩) 32 (sc - 32)) 32 (fun j=>ss (32+j)):=fun W hW => .inr ⟨sb,so+32,sc - 32,rfl,Nat.lt_of_lt_of_le hsl hW.size,by omega,fun j hj=>by
  have:=(hW.cell (p:=⟨sb,so+(32+j),none⟩) hsl).trans (hcell (32+j) (by omega))
  rw [←Nat.add_assoc] at this
  exact this⟩
 have i1:(64:Int)≤(sc:Int):=by omega
 have i2:(32:Int)≤(sc:Int):=by omega
 have i3:¬(sc=32):=by omega
 have i4:((sc:Int) - 32).toNat=sc - 32:=by omega
 have i5:sc - 0=sc:=rfl
 obtain ⟨xp,cp,rfl,hpn,hpc,hpsrc⟩:=hp.src
 obtain ⟨xt,ct,rfl,htn,htc,htsrc⟩:=ht.src
 clear hpsrc htsrc hcell
 have b:=Below.refl w.heap.size w
 have cd:=rdec_yes (.slice xp 32 cp) ps w hps hp hd
 have cdd:=fun W hW=>rdec_no (.slice (some ⟨sb,so,none⟩) 32 sc) ss W hss (hs1 W hW) hd2
 go_enter Tryz.func15,Tryz.ntmps15
 go_wp2_with (first
  | (go_at_call 31;refine cd.mono ?_;clear cd;rintro e w1 ⟨t1,P1,rfl,hq1,e1,hb_⟩;(obtain ⟨V1,hV_,h1,b_,u1⟩:=boxQ7 w1 t1);(have H1:=Hid.mk' hV_);clear hV_;(replace b:=below_next (below_next b hb_) b_);clear b_ hb_;(have cd2:=cdd V1 b);clear cdd)
  | (with_reducible (refine id (?_:wpList _ _ _ _ _ _));refine wpList_store_mid rfl 68 _ _ rfl w1.heap.size 0 (q64 t1.X t1.Y t1.Z t1.T).toArray rfl rfl u1 (infoQA _ _ _ _) (oneQ _ _ _ _) ?_;rw [List.toList_toArray,←H1.out];clear u1 H1)
  | (go_at_call 31;refine cd2.mono ?_;clear cd2;rintro e w2 ⟨t2,rfl,hq2,hb_⟩;(obtain ⟨V2,hV_,h2,b_,u2⟩:=boxQ7 w2 t2);(have H2:=Hid.mk' hV_);clear hV_;(replace b:=below_next (below_next b hb_) b_);clear b_ hb_)
  | (with_reducible (refine id (?_:wpList _ _ _ _ _ _));refine wpList_store_mid rfl 68 _ _ rfl w2.heap.size 0 (q64 t2.X t2.Y t2.Z t2.T).toArray rfl rfl u2 (infoQA _ _ _ _) (oneQ _ _ _ _) ?_;rw [List.toList_toArray,←H2.out];clear u2 H2))
 go_ret
 exact ⟨rfl,b⟩
set_option maxRecDepth 20000 in
set_option maxHeartbeats 8000000 in
theorem rverify_sig2 (p t s:Value) (n:Nat) (ps ts ss:Nat→Nat) (hps:∀ j,ps j<256) (hss:∀ j,ss j<256) (w:World) (hp:BytesIn w p 32 ps) (ht:BytesIn w t n ts) (hs:BytesIn w s 64 ss) (hd:decN ps≠none) (hd2:decN ss≠none) (hl:¬sOf ss<oL) :
 Calls Tryz.prog 15 #[p,t,s] w fun e w'=>e = .returned (.int .i64 (31))∧Below w.heap.size w w':=by
 have hz:=zeroQ
 have hca:canonB (fun j=>ss (32+j))=false:=decide_eq_false hl
 rcases hs with ⟨_,_,h⟩ | ⟨sb,so,sc,rfl,hsl,hsc,hcell⟩
 · omega
 have hs1:∀ W,Below w.heap.size w W→BytesIn W (.slice (some ⟨sb,so,none⟩) 32 sc) 32 ss:=fun W hW => .inr ⟨sb,so,sc,rfl,Nat.lt_of_lt_of_le hsl hW.size,by omega,fun j hj=>(hW.cell (p:=⟨sb,so+j,none⟩) hsl).trans (hcell j (by omega))⟩
 have hs2:∀ W,Below w.heap.size w W→BytesIn W (.slice (some ⟨sb,so+32,none⟩) 32 (sc - 32)) 32 (fun j=>ss (32+j)):=fun W hW => .inr ⟨sb,so+32,sc - 32,rfl,Nat.lt_of_lt_of_le hsl hW.size,by omega,fun j hj=>by
  have:=(hW.cell (p:=⟨sb,so+(32+j),none⟩) hsl).trans (hcell (32+j) (by omega))
  rw [←Nat.add_assoc] at this
  exact this⟩
 have i1:(64:Int)≤(sc:Int):=by omega
 have i2:(32:Int)≤(sc:Int):=by omega
 have i3:¬(sc=32):=by omega
 have i4:((sc:Int) - 32).toNat=sc - 32:=by omega
 have i5:sc - 0=sc:=rfl
 obtain ⟨xp,cp,rfl,hpn,hpc,hpsrc⟩:=hp.src
 obtain ⟨xt,ct,rfl,htn,htc,htsrc⟩:=ht.src
 clear hpsrc htsrc hcell
 have b:=Below.refl w.heap.size w
 have cd:=rdec_yes (.slice xp 32 cp) ps w hps hp hd
 have cdd:=fun W hW=>rdec_yes (.slice (some ⟨sb,so,none⟩) 32 sc) ss W hss (hs1 W hW) hd2
 go_enter Tryz.func15,Tryz.ntmps15
 go_wp2_with (first
  | (go_at_call 31;refine cd.mono ?_;clear cd;rintro e w1 ⟨t1,P1,rfl,hq1,e1,hb_⟩;(obtain ⟨V1,hV_,h1,b_,u1⟩:=boxQ7 w1 t1);(have H1:=Hid.mk' hV_);clear hV_;(replace b:=below_next (below_next b hb_) b_);clear b_ hb_;(have cd2:=cdd V1 b);clear cdd)
  | (with_reducible (refine id (?_:wpList _ _ _ _ _ _));refine wpList_store_mid rfl 68 _ _ rfl w1.heap.size 0 (q64 t1.X t1.Y t1.Z t1.T).toArray rfl rfl u1 (infoQA _ _ _ _) (oneQ _ _ _ _) ?_;rw [List.toList_toArray,←H1.out];clear u1 H1)
  | (go_at_call 31;refine cd2.mono ?_;clear cd2;rintro e w2 ⟨t2,P2,rfl,hq2,e2,hb_⟩;(obtain ⟨V2,hV_,h2,b_,u2⟩:=boxQ7 w2 t2);(have H2:=Hid.mk' hV_);clear hV_;(replace h1:=(h1.still hb_).still b_);(replace b:=below_next (below_next b hb_) b_);clear b_ hb_;(have cc:=rcanonical_good (.slice (some ⟨sb,so+32,none⟩) 32 (sc - 32)) (fun j=>ss (32+j)) (fun j=>hss _) V2 (hs2 V2 b));rw [hca] at cc)
  | (with_reducible (refine id (?_:wpList _ _ _ _ _ _));refine wpList_store_mid rfl 68 _ _ rfl w2.heap.size 0 (q64 t2.X t2.Y t2.Z t2.T).toArray rfl rfl u2 (infoQA _ _ _ _) (oneQ _ _ _ _) ?_;rw [List.toList_toArray,←H2.out];clear u2 H2)
  | (go_at_call 32;refine cc.mono ?_;clear cc;rintro e w3 ⟨rfl,hb3⟩;(replace h1:=h1.still hb3);(replace h2:=h2.still hb3);(replace b:=below_next b hb3);clear hb3))
 go_ret
 exact ⟨rfl,b⟩
set_option maxRecDepth 20000 in
set_option maxHeartbeats 8000000 in
theorem rverify_main (p t s:Value) (n:Nat) (ps ts ss:Nat→Nat) (hps:∀ j,ps j<256) (hts:∀ j,ts j<256) (hss:∀ j,ss j<256) (hn:n<140737488352000) (w:World) (hp:BytesIn w p 32 ps) (ht:BytesIn w t n ts) (hs:BytesIn w s 64 ss) (hd:decN ps≠none) (hd2:decN ss≠none) (hl:sOf ss<oL) :
 Calls Tryz.prog 15 #[p,t,s] w fun e w'=>e = .returned (.int .i64 (verE 32 ps n ts 64 ss))∧Below w.heap.size w w':=by
 have hz:=zeroQ
 have hca:canonB (fun j=>ss (32+j))=true:=decide_eq_true hl
 have hver:=fun P Q hP hQ eP eQ=>verE_pts (m:=n) (t:=ts) hd hd2 hl (P:=P) (Q:=Q) hP hQ eP eQ
 generalize hres:verE 32 ps n ts 64 ss=res at *
 rcases hs with ⟨_,_,h⟩ | ⟨sb,so,sc,rfl,hsl,hsc,hcell⟩
 · omega
 have hs1:∀ W,Below w.heap.size w W→BytesIn W (.slice (some ⟨sb,so,none⟩) 32 sc) 32 ss:=fun W hW => .inr ⟨sb,so,sc,rfl,Nat.lt_of_lt_of_le hsl hW.size,by omega,fun j hj=>(hW.cell (p:=⟨sb,so+j,none⟩) hsl).trans (hcell j (by omega))⟩
 have hs2:∀ W,Below w.heap.size w W→BytesIn W (.slice (some ⟨sb,so+32,none⟩) 32 (sc - 32)) 32 (fun j=>ss (32+j)):=fun W hW => .inr ⟨sb,so+32,sc - 32,rfl,Nat.lt_of_lt_of_le hsl hW.size,by omega,fun j hj=>by
  have:=(hW.cell (p:=⟨sb,so+(32+j),none⟩) hsl).trans (hcell (32+j) (by omega))
  rw [←Nat.add_assoc] at this
  exact this⟩
 have i1:(64:Int)≤(sc:Int):=by omega
 have i2:(32:Int)≤(sc:Int):=by omega
 have i3:¬(sc=32):=by omega
 have i4:((sc:Int) - 32).toNat=sc - 32:=by omega
 have i5:sc - 0=sc:=rfl
 obtain ⟨xp,cp,rfl,hpn,hpc,hpsrc⟩:=hp.src
 obtain ⟨xt,ct,rfl,htn,htc,htsrc⟩:=ht.src
 clear hpsrc htsrc hcell
 have b:=Below.refl w.heap.size w
 have cd:=rdec_yes (.slice xp 32 cp) ps w hps hp hd
 have cdd:=fun W hW=>rdec_yes (.slice (some ⟨sb,so,none⟩) 32 sc) ss W hss (hs1 W hW) hd2
 have ch:∀ W,Below w.heap.size w W→Calls Tryz.prog 25 #[.slice (some ⟨sb,so,none⟩) 32 sc,.slice xp 32 cp,.slice xt n ct] W fun e w'=>∃ s,e = .returned s∧BytesIn w' s 32 (byt (kN ss ps n ts))∧Below W.heap.size W w':=fun W hW=>rhash_any _ _ _ 32 32 n ss ps ts hss hps hts W (hs1 W hW) (hp.still hW) (ht.still hW) (by omega)
 have ctm:∀ (r:P4) P v W,r.Pt P→BytesIn W v 32 (byt (kN ss ps n ts))→Calls Tryz.prog 33 #[.agg (q64 r.X r.Y r.Z r.T).toArray,v] W fun e w'=>∃ t:P4,e = .returned (.tuple #[.agg (q64 t.X t.Y t.Z t.T).toArray,.int .i64 0])∧t.Pt (emul dE (kN ss ps n ts) P)∧Below W.heap.size W w':=fun r P v W hr hv=>by
  have h:=rtimes_pt hr v (byt (kN ss ps n ts)) (byt_lt _) W hv
  rw [kN_of] at h
  exact h
 have cD:∀ W,Calls Tryz.prog 35 #[] W fun e w'=>∃ R,e = .returned (.agg (i16 R).toArray)∧Rw R dN∧Below W.heap.size W w':=fun W=>rD_any W
 have cpl:∀ (r q:P4) P Q D W,r.Pt P→q.Pt Q→Rw D dN→Calls Tryz.prog 34 #[.agg (q64 r.X r.Y r.Z r.T).toArray,.agg (q64 q.X q.Y q.Z q.T).toArray,.agg (i16 D).toArray] W fun e w'=>∃ t:P4,e = .returned (.agg (q64 t.X t.Y t.Z t.T).toArray)∧t.Pt (eadd dE P Q)∧Below W.heap.size W w':=fun r q P Q D W hr hq hD=>rplus_pt hr hq hD W
 have cb:∀ W,Below w.heap.size w W→Calls Tryz.prog 18 #[.slice (some ⟨sb,so+32,none⟩) 32 (sc - 32)] W fun e w'=>∃ g cap,e = .returned (.slice (some ⟨g,0,none⟩) 32 cap)∧32≤cap∧RowAt .u8 w' g 0 32 (encB (bP (sOf ss)))∧Below W.heap.size W w':=fun W hW=>rbase_sg _ (fun j=>ss (32+j)) (fun j=>hss _) W (hs2 W hW)
 have ce:∀ (r:P4) P W,r.Pt P→Calls Tryz.prog 36 #[.agg (q64 r.X r.Y r.Z r.T).toArray] W fun e w'=>∃ s,e = .returned s∧NewC W w' s 32 (encB P)∧Below W.heap.size W w':=fun r P W hr=>renc_pt hr W
 have onS:On dE (bP (sOf ss)):=emul_on ns_dE base_on _
 generalize bP (sOf ss)=PS at *
 generalize kN ss ps n ts=kn at *
 clear hl hd hd2 hps hts
 go_enter Tryz.func15,Tryz.ntmps15
 go_upto_region 9 with (first
  | (go_at_call 31;refine cd.mono ?_;clear cd;rintro e w1 ⟨t1,P1,rfl,hq1,e1,hb_⟩;(obtain ⟨V1,hV_,h1,b_,u1⟩:=boxQ7 w1 t1);(have H1:=Hid.mk' hV_);clear hV_;(replace b:=below_next (below_next b hb_) b_);clear b_ hb_;(have cd2:=cdd V1 b);clear cdd)
  | (with_reducible (refine id (?_:wpList _ _ _ _ _ _));refine wpList_store_mid rfl 68 _ _ rfl w1.heap.size 0 (q64 t1.X t1.Y t1.Z t1.T).toArray rfl rfl u1 (infoQA _ _ _ _) (oneQ _ _ _ _) ?_;rw [List.toList_toArray,←H1.out];clear u1 H1)
  | (go_at_call 31;refine cd2.mono ?_;clear cd2;rintro e w2 ⟨t2,P2,rfl,hq2,e2,hb_⟩;(obtain ⟨V2,hV_,h2,b_,u2⟩:=boxQ7 w2 t2);(have H2:=Hid.mk' hV_);clear hV_;(replace h1:=(h1.still hb_).still b_);(replace b:=below_next (below_next b hb_) b_);clear b_ hb_;(have cc:=rcanonical_good (.slice (some ⟨sb,so+32,none⟩) 32 (sc - 32)) (fun j=>ss (32+j)) (fun j=>hss _) V2 (hs2 V2 b));rw [hca] at cc)
  | (with_reducible (refine id (?_:wpList _ _ _ _ _ _));refine wpList_store_mid rfl 68 _ _ rfl w2.heap.size 0 (q64 t2.X t2.Y t2.Z t2.T).toArray rfl rfl u2 (infoQA _ _ _ _) (oneQ _ _ _ _) ?_;rw [List.toList_toArray,←H2.out];clear u2 H2)
  | (go_at_call 32;refine cc.mono ?_;clear cc;rintro e w3 ⟨rfl,hb3⟩;(replace h1:=h1.still hb3);(replace h2:=h2.still hb3);(replace b:=below_next b hb3);clear hb3))
 (try dsimp only [Act.put])
 generalize hg1:w1.heap.size=g1 at *
 generalize hg2:w2.heap.size=g2 at *
 clear hg1 hg2 hss hp ht hs1 hs2
 go_cut [11] from 14 (fun s11 wc=>∃ (g11:Nat) (t11:P4),s11 = .pointer (some ⟨g11,0,none⟩)∧t11.Pt (emul dE kn P1)∧Below w3.heap.size w3 wc∧w3.heap.size≤g11∧RW wc g11 0 (q64 t11.X t11.Y t11.Z t11.T))
 case first =>
  have hdrew:Below w3.heap.size w3 w3.drew:=(Below.refl _ _).drew
  replace h1:=h1.still hdrew
  replace b:=below_next b hdrew
  have hd0:=hdrew.size
  clear h2
  refine wp_region_noPanic ?_
  refine wp_region_held_drew (S:=fun w'=>Below w3.drew.heap.size w3.drew w') (by kernel_rfl) (Below.refl _ _) (fun hS => ?_)
  generalize w3.drew=Va at *
  refine tkH 0 (oN 44 (Op.load 68 (oT 7)) 68 "ref.go:73" #[]) (.agg (q64 t1.X t1.Y t1.Z t1.T).toArray) hS (ldH h1 68 7 Tryz.underlying68 (infoQ _ _ _ _)) ?_
  (try simp only [pS])
  refine tkH 1 (oN 45 (Op.move (oT 2)) 22 "ref.go:73" #[]) ?va1 hS (Or.inl ⟨by rfl,?ha1⟩) ?ra1
  case ha1 =>
   intro u hu
   go_simp
   try with_reducible rfl
  (try simp only [pS])
  refine tkH 2 (oN 46 (Op.slice 22 (oT 45) none (some (Operand.const (Value.int IntKind.i64 32))) none) 22 "ref.go:73" #[jD 1]) (.slice (some ⟨sb,so,none⟩) 32 sc) hS (Or.inl ⟨by rfl,?ha2⟩) ?ra2
  case ha2 =>
   intro u hu
   go_simp
   try with_reducible rfl
  (try simp only [pS])
  refine tkH 3 (oN 47 (Op.move (oT 0)) 22 "ref.go:73" #[]) ?va3 hS (Or.inl ⟨by rfl,?ha3⟩) ?ra3
  case ha3 =>
   intro u hu
   go_simp
   try with_reducible rfl
  (try simp only [pS])
  refine tkH 4 (oN 48 (Op.move (oT 1)) 22 "ref.go:73" #[]) ?va4 hS (Or.inl ⟨by rfl,?ha4⟩) ?ra4
  case ha4 =>
   intro u hu
   go_simp
   try with_reducible rfl
  (try simp only [pS])
  clear h1
  refine wpAnyH_ready (rs:=[5,10]) (by kernel_rfl) (by simp) ?_
  refine arC (oN 49 (cF1 25 #[oT 46,oT 47,oT 48] #[22,22,22]) 22 "ref.go:73" #[jD 2,jD 3,jD 4]) (ch Va (b.trans (hS.mono b.size))) ?_ (arA (cs:=zQ) (t:=68) (oN 11 (Op.alloc 68) 0 "ref.go:73" #[]) ?_ (AllReadyH.nil))
  · rintro e wa1 ⟨s5,rfl,hs5,hba1⟩
    replace hS:=below_next hS hba1
    clear hba1
    refine ⟨_,rfl,hS,?_⟩
    (try simp only [pS])
    refine wpAnyH_ready (rs:=[6,10]) (by kernel_rfl) (by simp) ?_
    refine arC (oN 50 (cF1 33 #[oT 44,oT 49] #[68,22]) 69 "ref.go:73" #[jD 0,jD 5,jC 5]) (ctm t1 P1 s5 wa1 hq1 hs5) ?_ (arA (cs:=zQ) (t:=68) (oN 11 (Op.alloc 68) 0 "ref.go:73" #[]) ?_ (AllReadyH.nil))
    · rintro e wa2 ⟨t6,rfl,hq6,hba2⟩
      replace hS:=below_next hS hba2
      replace hs5:=hs5.still hba2
      clear hba2
      refine ⟨_,rfl,hS,?_⟩
      (try simp only [pS])
      refine tkH 7 (oN 43 (Op.move (oT 50)) 69 "ref.go:73" #[jD 6]) ?va2_7 hS (Or.inl ⟨by rfl,?ha2_7⟩) ?ra2_7
      case ha2_7 =>
       intro u hu
       go_simp
       try with_reducible rfl
      (try simp only [pS])
      refine tkH 8 (oN 51 (Op.extract (oT 43) 0) 68 "ref.go:73" #[jD 7]) ?va2_8 hS (Or.inl ⟨by rfl,?ha2_8⟩) ?ra2_8
      case ha2_8 =>
       intro u hu
       go_simp
       try with_reducible rfl
      (try simp only [pS])
      refine tkH 9 (oN 52 (Op.extract (oT 43) 1) 3 "ref.go:73" #[jD 7,jO 11]) ?va2_9 hS (Or.inl ⟨by rfl,?ha2_9⟩) ?ra2_9
      case ha2_9 =>
       intro u hu
       go_simp
       try with_reducible rfl
      (try simp only [pS])
      refine wpAnyH_ready (rs:=[10]) (by kernel_rfl) (by simp) ?_
      refine arA (cs:=zQ) (t:=68) (oN 11 (Op.alloc 68) 0 "ref.go:73" #[]) ?_ (AllReadyH.nil)
      obtain ⟨wa3,ea3,ba3,za3⟩:∃ U,wa2.alloc (.cells zQ 68)=U∧Below wa2.heap.size wa2 U∧RW U wa2.heap.size 0 (q64 (fun _=>0) (fun _=>0) (fun _=>0) (fun _=>0)):=⟨_,rfl,(Below.refl _ _).alloc (Nat.le_refl _) _,freshQ' wa2⟩
      rw [ea3]
      have Ga3:Va.heap.size≤wa2.heap.size:=hS.size
      replace hS:=below_next hS ba3
      replace hs5:=hs5.still ba3
      clear ea3 ba3
      refine ⟨hS,?_⟩
      (try simp only [pS])
      refine wpAnyH_ready (rs:=[11]) (by kernel_rfl) (by simp) ?_
      refine AllReadyH.cons (o:=oS (Op.store 68 (oT 11) (oT 51)) "ref.go:73" #[jD 10,jD 8,jC 6,jP 0,jP 1,jP 2,jP 3,jP 4,jP 5,jP 6,jP 7,jP 8,jT 9,jP 10]) rfl (fun K hK => ?_) AllReadyH.nil
      rw [if_pos (by rfl)]
      refine wp_store_mid 68 _ _ rfl (wa2.heap.size) 0 (q64 t6.X t6.Y t6.Z t6.T).toArray rfl rfl (there64 za3) (infoQA _ _ _ _) (oneQ _ _ _ _) ?_
      replace hS:=below_setCells Ga3 (q64 t6.X t6.Y t6.Z t6.T) 0 _ hS
      replace za3:=za3.stored (q64 t6.X t6.Y t6.Z t6.T) (q64_same _ _ _ _ _ _ _ _)
      rw [List.toList_toArray]
      refine hK.out _ _ hS (fun h => ?_)
      clear h hK K
      (try dsimp only [Act.put])
      refine tkH 12 (oN 12 (Op.assign (oT 52)) 3 "ref.go:73" #[jD 9,jC 11,jP 0,jP 1,jP 2,jP 3,jP 4,jP 5,jP 6,jP 7,jP 8,jP 9,jP 10,jP 11]) ?vsa3_12 hS (Or.inl ⟨by rfl,?hsa3_12⟩) ?rsa3_12
      case hsa3_12 =>
       intro u hu
       go_simp
       try with_reducible rfl
      (try simp only [pS])
      refine wpAnyH_done (by kernel_rfl) ?_ _
      refine NoPanic.normal ?_
      go_wp2
      go_meet
      case rel=>exact ⟨wa2.heap.size,t6,rfl,hq6,hdrew.trans (hS.mono hd0),Nat.le_trans hd0 Ga3,za3⟩
    · obtain ⟨wa5,ea5,ba5,za5⟩:∃ U,wa1.alloc (.cells zQ 68)=U∧Below wa1.heap.size wa1 U∧RW U wa1.heap.size 0 (q64 (fun _=>0) (fun _=>0) (fun _=>0) (fun _=>0)):=⟨_,rfl,(Below.refl _ _).alloc (Nat.le_refl _) _,freshQ' wa1⟩
      rw [ea5]
      have Ga5:Va.heap.size≤wa1.heap.size:=hS.size
      replace hS:=below_next hS ba5
      replace hs5:=hs5.still ba5
      clear ea5 ba5
      refine ⟨hS,?_⟩
      (try simp only [pS])
      refine wpAnyH_ready (rs:=[6]) (by kernel_rfl) (by simp) ?_
      refine arC (oN 50 (cF1 33 #[oT 44,oT 49] #[68,22]) 69 "ref.go:73" #[jD 0,jD 5,jC 5]) (ctm t1 P1 s5 wa5 hq1 hs5) ?_ (AllReadyH.nil)
      rintro e wa6 ⟨t6,rfl,hq6,hba6⟩
      replace hS:=below_next hS hba6
      replace hs5:=hs5.still hba6
      replace za5:=za5.still hba6
      clear hba6
      refine ⟨_,rfl,hS,?_⟩
      (try simp only [pS])
      refine tkH 7 (oN 43 (Op.move (oT 50)) 69 "ref.go:73" #[jD 6]) ?va6_7 hS (Or.inl ⟨by rfl,?ha6_7⟩) ?ra6_7
      case ha6_7 =>
       intro u hu
       go_simp
       try with_reducible rfl
      (try simp only [pS])
      refine tkH 8 (oN 51 (Op.extract (oT 43) 0) 68 "ref.go:73" #[jD 7]) ?va6_8 hS (Or.inl ⟨by rfl,?ha6_8⟩) ?ra6_8
      case ha6_8 =>
       intro u hu
       go_simp
       try with_reducible rfl
      (try simp only [pS])
      refine tkH 9 (oN 52 (Op.extract (oT 43) 1) 3 "ref.go:73" #[jD 7,jO 11]) ?va6_9 hS (Or.inl ⟨by rfl,?ha6_9⟩) ?ra6_9
      case ha6_9 =>
       intro u hu
       go_simp
       try with_reducible rfl
      (try simp only [pS])
      refine wpAnyH_ready (rs:=[11]) (by kernel_rfl) (by simp) ?_
      refine AllReadyH.cons (o:=oS (Op.store 68 (oT 11) (oT 51)) "ref.go:73" #[jD 10,jD 8,jC 6,jP 0,jP 1,jP 2,jP 3,jP 4,jP 5,jP 6,jP 7,jP 8,jT 9,jP 10]) rfl (fun K hK => ?_) AllReadyH.nil
      rw [if_pos (by rfl)]
      refine wp_store_mid 68 _ _ rfl (wa1.heap.size) 0 (q64 t6.X t6.Y t6.Z t6.T).toArray rfl rfl (there64 za5) (infoQA _ _ _ _) (oneQ _ _ _ _) ?_
      replace hS:=below_setCells Ga5 (q64 t6.X t6.Y t6.Z t6.T) 0 _ hS
      replace za5:=za5.stored (q64 t6.X t6.Y t6.Z t6.T) (q64_same _ _ _ _ _ _ _ _)
      rw [List.toList_toArray]
      refine hK.out _ _ hS (fun h => ?_)
      clear h hK K
      (try dsimp only [Act.put])
      refine tkH 12 (oN 12 (Op.assign (oT 52)) 3 "ref.go:73" #[jD 9,jC 11,jP 0,jP 1,jP 2,jP 3,jP 4,jP 5,jP 6,jP 7,jP 8,jP 9,jP 10,jP 11]) ?vsa6_12 hS (Or.inl ⟨by rfl,?hsa6_12⟩) ?rsa6_12
      case hsa6_12 =>
       intro u hu
       go_simp
       try with_reducible rfl
      (try simp only [pS])
      refine wpAnyH_done (by kernel_rfl) ?_ _
      refine NoPanic.normal ?_
      go_wp2
      go_meet
      case rel=>exact ⟨wa1.heap.size,t6,rfl,hq6,hdrew.trans (hS.mono hd0),Nat.le_trans hd0 Ga5,za5⟩
  · obtain ⟨wa8,ea8,ba8,za8⟩:∃ U,Va.alloc (.cells zQ 68)=U∧Below Va.heap.size Va U∧RW U Va.heap.size 0 (q64 (fun _=>0) (fun _=>0) (fun _=>0) (fun _=>0)):=⟨_,rfl,(Below.refl _ _).alloc (Nat.le_refl _) _,freshQ' Va⟩
    rw [ea8]
    have Ga8:Va.heap.size≤Va.heap.size:=hS.size
    replace hS:=below_next hS ba8
    clear ea8 ba8
    refine ⟨hS,?_⟩
    (try simp only [pS])
    refine wpAnyH_ready (rs:=[5]) (by kernel_rfl) (by simp) ?_
    refine arC (oN 49 (cF1 25 #[oT 46,oT 47,oT 48] #[22,22,22]) 22 "ref.go:73" #[jD 2,jD 3,jD 4]) (ch wa8 (b.trans (hS.mono b.size))) ?_ (AllReadyH.nil)
    rintro e wa9 ⟨s5,rfl,hs5,hba9⟩
    replace hS:=below_next hS hba9
    replace za8:=za8.still hba9
    clear hba9
    refine ⟨_,rfl,hS,?_⟩
    (try simp only [pS])
    refine wpAnyH_ready (rs:=[6]) (by kernel_rfl) (by simp) ?_
    refine arC (oN 50 (cF1 33 #[oT 44,oT 49] #[68,22]) 69 "ref.go:73" #[jD 0,jD 5,jC 5]) (ctm t1 P1 s5 wa9 hq1 hs5) ?_ (AllReadyH.nil)
    rintro e wa10 ⟨t6,rfl,hq6,hba10⟩
    replace hS:=below_next hS hba10
    replace hs5:=hs5.still hba10
    replace za8:=za8.still hba10
    clear hba10
    refine ⟨_,rfl,hS,?_⟩
    (try simp only [pS])
    refine tkH 7 (oN 43 (Op.move (oT 50)) 69 "ref.go:73" #[jD 6]) ?va10_7 hS (Or.inl ⟨by rfl,?ha10_7⟩) ?ra10_7
    case ha10_7 =>
     intro u hu
     go_simp
     try with_reducible rfl
    (try simp only [pS])
    refine tkH 8 (oN 51 (Op.extract (oT 43) 0) 68 "ref.go:73" #[jD 7]) ?va10_8 hS (Or.inl ⟨by rfl,?ha10_8⟩) ?ra10_8
    case ha10_8 =>
     intro u hu
     go_simp
     try with_reducible rfl
    (try simp only [pS])
    refine tkH 9 (oN 52 (Op.extract (oT 43) 1) 3 "ref.go:73" #[jD 7,jO 11]) ?va10_9 hS (Or.inl ⟨by rfl,?ha10_9⟩) ?ra10_9
    case ha10_9 =>
     intro u hu
     go_simp
     try with_reducible rfl
    (try simp only [pS])
    refine wpAnyH_ready (rs:=[11]) (by kernel_rfl) (by simp) ?_
    refine AllReadyH.cons (o:=oS (Op.store 68 (oT 11) (oT 51)) "ref.go:73" #[jD 10,jD 8,jC 6,jP 0,jP 1,jP 2,jP 3,jP 4,jP 5,jP 6,jP 7,jP 8,jT 9,jP 10]) rfl (fun K hK => ?_) AllReadyH.nil
    rw [if_pos (by rfl)]
    refine wp_store_mid 68 _ _ rfl (Va.heap.size) 0 (q64 t6.X t6.Y t6.Z t6.T).toArray rfl rfl (there64 za8) (infoQA _ _ _ _) (oneQ _ _ _ _) ?_
    replace hS:=below_setCells Ga8 (q64 t6.X t6.Y t6.Z t6.T) 0 _ hS
    replace za8:=za8.stored (q64 t6.X t6.Y t6.Z t6.T) (q64_same _ _ _ _ _ _ _ _)
    rw [List.toList_toArray]
    refine hK.out _ _ hS (fun h => ?_)
    clear h hK K
    (try dsimp only [Act.put])
    refine tkH 12 (oN 12 (Op.assign (oT 52)) 3 "ref.go:73" #[jD 9,jC 11,jP 0,jP 1,jP 2,jP 3,jP 4,jP 5,jP 6,jP 7,jP 8,jP 9,jP 10,jP 11]) ?vsa10_12 hS (Or.inl ⟨by rfl,?hsa10_12⟩) ?rsa10_12
    case hsa10_12 =>
     intro u hu
     go_simp
     try with_reducible rfl
    (try simp only [pS])
    refine wpAnyH_done (by kernel_rfl) ?_ _
    refine NoPanic.normal ?_
    go_wp2
    go_meet
    case rel=>exact ⟨Va.heap.size,t6,rfl,hq6,hdrew.trans (hS.mono hd0),Nat.le_trans hd0 Ga8,za8⟩
 case rest =>
 obtain ⟨g11,t11,rfl,hq11,hb11,G11,h11⟩:=hcut
 obtain ⟨Wc,hWc⟩:∃ W,W=wc:=⟨_,rfl⟩
 subst hWc
 replace h2:=h2.still hb11
 replace b:=below_next b hb11
 clear hb11 ch ctm
 generalize hK1:emul dE kn P1=PK at *
 go_upto_region 10 with (fail)
 go_cut [13] from 14 (fun s13 wd=>∃ (g13:Nat) (t13:P4),s13 = .pointer (some ⟨g13,0,none⟩)∧t13.Pt (eadd dE P2 PK)∧Below Wc.heap.size Wc wd∧RW wd g13 0 (q64 t13.X t13.Y t13.Z t13.T))
 case first =>
  have hdrew:Below Wc.heap.size Wc Wc.drew:=(Below.refl _ _).drew
  replace h2:=h2.still hdrew
  replace h11:=h11.still hdrew
  have hd0:=hdrew.size
  refine wp_region_noPanic ?_
  refine wp_region_held_drew (S:=fun w'=>Below Wc.drew.heap.size Wc.drew w') (by kernel_rfl) (Below.refl _ _) (fun hS => ?_)
  generalize Wc.drew=Vc at *
  refine tkH 0 (oN 53 (Op.load 68 (oT 9)) 68 "ref.go:74" #[]) (.agg (q64 t2.X t2.Y t2.Z t2.T).toArray) hS (ldH h2 68 9 Tryz.underlying68 (infoQ _ _ _ _)) ?_
  (try simp only [pS])
  refine tkH 1 (oN 54 (Op.load 68 (oT 11)) 68 "ref.go:74" #[]) (.agg (q64 t11.X t11.Y t11.Z t11.T).toArray) hS (ldH h11 68 11 Tryz.underlying68 (infoQ _ _ _ _)) ?_
  (try simp only [pS])
  clear h2 h11
  refine wpAnyH_ready (rs:=[2,4]) (by kernel_rfl) (by simp) ?_
  refine arC (oN 55 (cF1 35 #[] #[]) 66 "ref.go:74" #[]) (cD Vc) ?_ (arA (cs:=zQ) (t:=68) (oN 13 (Op.alloc 68) 0 "ref.go:74" #[]) ?_ (AllReadyH.nil))
  · rintro e wc12 ⟨DL,rfl,hDL,hbc12⟩
    replace hS:=below_next hS hbc12
    clear hbc12
    refine ⟨_,rfl,hS,?_⟩
    (try simp only [pS])
    refine wpAnyH_ready (rs:=[3,4]) (by kernel_rfl) (by simp) ?_
    refine arC (oN 56 (cF1 34 #[oT 53,oT 54,oT 55] #[68,68,66]) 68 "ref.go:74" #[jD 0,jD 1,jD 2,jC 2]) (cpl t2 t11 P2 PK DL wc12 hq2 hq11 hDL) ?_ (arA (cs:=zQ) (t:=68) (oN 13 (Op.alloc 68) 0 "ref.go:74" #[]) ?_ (AllReadyH.nil))
    · rintro e wc13 ⟨t6,rfl,hq6,hbc13⟩
      replace hS:=below_next hS hbc13
      clear hbc13
      refine ⟨_,rfl,hS,?_⟩
      (try simp only [pS])
      refine wpAnyH_ready (rs:=[4]) (by kernel_rfl) (by simp) ?_
      refine arA (cs:=zQ) (t:=68) (oN 13 (Op.alloc 68) 0 "ref.go:74" #[]) ?_ (AllReadyH.nil)
      obtain ⟨wc14,ec14,bc14,zc14⟩:∃ U,wc13.alloc (.cells zQ 68)=U∧Below wc13.heap.size wc13 U∧RW U wc13.heap.size 0 (q64 (fun _=>0) (fun _=>0) (fun _=>0) (fun _=>0)):=⟨_,rfl,(Below.refl _ _).alloc (Nat.le_refl _) _,freshQ' wc13⟩
      rw [ec14]
      have Gc14:Vc.heap.size≤wc13.heap.size:=hS.size
      replace hS:=below_next hS bc14
      clear ec14 bc14
      refine ⟨hS,?_⟩
      (try simp only [pS])
      refine wpAnyH_ready (rs:=[5]) (by kernel_rfl) (by simp) ?_
      refine AllReadyH.cons (o:=oS (Op.store 68 (oT 13) (oT 56)) "ref.go:74" #[jD 4,jD 3,jC 3,jP 0,jP 1,jP 2,jP 3,jP 4]) rfl (fun K hK => ?_) AllReadyH.nil
      rw [if_pos (by rfl)]
      refine wp_store_mid 68 _ _ rfl (wc13.heap.size) 0 (q64 t6.X t6.Y t6.Z t6.T).toArray rfl rfl (there64 zc14) (infoQA _ _ _ _) (oneQ _ _ _ _) ?_
      replace hS:=below_setCells Gc14 (q64 t6.X t6.Y t6.Z t6.T) 0 _ hS
      replace zc14:=zc14.stored (q64 t6.X t6.Y t6.Z t6.T) (q64_same _ _ _ _ _ _ _ _)
      rw [List.toList_toArray]
      refine hK.out _ _ hS (fun h => ?_)
      clear h hK K
      (try dsimp only [Act.put])
      refine wpAnyH_done (by kernel_rfl) ?_ _
      refine NoPanic.normal ?_
      go_wp2
      go_meet
      case rel=>exact ⟨wc13.heap.size,t6,rfl,hq6,hdrew.trans (hS.mono hd0),zc14⟩
    · obtain ⟨wc16,ec16,bc16,zc16⟩:∃ U,wc12.alloc (.cells zQ 68)=U∧Below wc12.heap.size wc12 U∧RW U wc12.heap.size 0 (q64 (fun _=>0) (fun _=>0) (fun _=>0) (fun _=>0)):=⟨_,rfl,(Below.refl _ _).alloc (Nat.le_refl _) _,freshQ' wc12⟩
      rw [ec16]
      have Gc16:Vc.heap.size≤wc12.heap.size:=hS.size
      replace hS:=below_next hS bc16
      clear ec16 bc16
      refine ⟨hS,?_⟩
      (try simp only [pS])
      refine wpAnyH_ready (rs:=[3]) (by kernel_rfl) (by simp) ?_
      refine arC (oN 56 (cF1 34 #[oT 53,oT 54,oT 55] #[68,68,66]) 68 "ref.go:74" #[jD 0,jD 1,jD 2,jC 2]) (cpl t2 t11 P2 PK DL wc16 hq2 hq11 hDL) ?_ (AllReadyH.nil)
      rintro e wc17 ⟨t6,rfl,hq6,hbc17⟩
      replace hS:=below_next hS hbc17
      replace zc16:=zc16.still hbc17
      clear hbc17
      refine ⟨_,rfl,hS,?_⟩
      (try simp only [pS])
      refine wpAnyH_ready (rs:=[5]) (by kernel_rfl) (by simp) ?_
      refine AllReadyH.cons (o:=oS (Op.store 68 (oT 13) (oT 56)) "ref.go:74" #[jD 4,jD 3,jC 3,jP 0,jP 1,jP 2,jP 3,jP 4]) rfl (fun K hK => ?_) AllReadyH.nil
      rw [if_pos (by rfl)]
      refine wp_store_mid 68 _ _ rfl (wc12.heap.size) 0 (q64 t6.X t6.Y t6.Z t6.T).toArray rfl rfl (there64 zc16) (infoQA _ _ _ _) (oneQ _ _ _ _) ?_
      replace hS:=below_setCells Gc16 (q64 t6.X t6.Y t6.Z t6.T) 0 _ hS
      replace zc16:=zc16.stored (q64 t6.X t6.Y t6.Z t6.T) (q64_same _ _ _ _ _ _ _ _)
      rw [List.toList_toArray]
      refine hK.out _ _ hS (fun h => ?_)
      clear h hK K
      (try dsimp only [Act.put])
      refine wpAnyH_done (by kernel_rfl) ?_ _
      refine NoPanic.normal ?_
      go_wp2
      go_meet
      case rel=>exact ⟨wc12.heap.size,t6,rfl,hq6,hdrew.trans (hS.mono hd0),zc16⟩
  · obtain ⟨wc19,ec19,bc19,zc19⟩:∃ U,Vc.alloc (.cells zQ 68)=U∧Below Vc.heap.size Vc U∧RW U Vc.heap.size 0 (q64 (fun _=>0) (fun _=>0) (fun _=>0) (fun _=>0)):=⟨_,rfl,(Below.refl _ _).alloc (Nat.le_refl _) _,freshQ' Vc⟩
    rw [ec19]
    have Gc19:Vc.heap.size≤Vc.heap.size:=hS.size
    replace hS:=below_next hS bc19
    clear ec19 bc19
    refine ⟨hS,?_⟩
    (try simp only [pS])
    refine wpAnyH_ready (rs:=[2]) (by kernel_rfl) (by simp) ?_
    refine arC (oN 55 (cF1 35 #[] #[]) 66 "ref.go:74" #[]) (cD wc19) ?_ (AllReadyH.nil)
    rintro e wc20 ⟨DL,rfl,hDL,hbc20⟩
    replace hS:=below_next hS hbc20
    replace zc19:=zc19.still hbc20
    clear hbc20
    refine ⟨_,rfl,hS,?_⟩
    (try simp only [pS])
    refine wpAnyH_ready (rs:=[3]) (by kernel_rfl) (by simp) ?_
    refine arC (oN 56 (cF1 34 #[oT 53,oT 54,oT 55] #[68,68,66]) 68 "ref.go:74" #[jD 0,jD 1,jD 2,jC 2]) (cpl t2 t11 P2 PK DL wc20 hq2 hq11 hDL) ?_ (AllReadyH.nil)
    rintro e wc21 ⟨t6,rfl,hq6,hbc21⟩
    replace hS:=below_next hS hbc21
    replace zc19:=zc19.still hbc21
    clear hbc21
    refine ⟨_,rfl,hS,?_⟩
    (try simp only [pS])
    refine wpAnyH_ready (rs:=[5]) (by kernel_rfl) (by simp) ?_
    refine AllReadyH.cons (o:=oS (Op.store 68 (oT 13) (oT 56)) "ref.go:74" #[jD 4,jD 3,jC 3,jP 0,jP 1,jP 2,jP 3,jP 4]) rfl (fun K hK => ?_) AllReadyH.nil
    rw [if_pos (by rfl)]
    refine wp_store_mid 68 _ _ rfl (Vc.heap.size) 0 (q64 t6.X t6.Y t6.Z t6.T).toArray rfl rfl (there64 zc19) (infoQA _ _ _ _) (oneQ _ _ _ _) ?_
    replace hS:=below_setCells Gc19 (q64 t6.X t6.Y t6.Z t6.T) 0 _ hS
    replace zc19:=zc19.stored (q64 t6.X t6.Y t6.Z t6.T) (q64_same _ _ _ _ _ _ _ _)
    rw [List.toList_toArray]
    refine hK.out _ _ hS (fun h => ?_)
    clear h hK K
    (try dsimp only [Act.put])
    refine wpAnyH_done (by kernel_rfl) ?_ _
    refine NoPanic.normal ?_
    go_wp2
    go_meet
    case rel=>exact ⟨Vc.heap.size,t6,rfl,hq6,hdrew.trans (hS.mono hd0),zc19⟩
 case rest =>
 obtain ⟨g13,t13,rfl,hq13,hb13,h13⟩:=hcut
 replace b:=below_next b hb13
 clear hb13 cD cpl h2 h11
 have hv:=hver P1 P2 hq1.1 hq2.1 e1 e2
 have onK:=hq13.1
 have cE:=fun W=>ce t13 _ W hq13
 clear ce hver hq13
 generalize hPK:eadd dE P2 PK=PE at *
 have z1:=strP_eq onS onK
 go_upto_region 11 with (fail)
 replace h13:=h13.drew
 replace b:=below_next b ((Below.refl wc.heap.size wc).drew)
 refine wp_region_noPanic ?_
 refine wp_region_held_drew (S:=fun w'=>Below wc.drew.heap.size wc.drew w') (by kernel_rfl) (Below.refl _ _) (fun hS => ?_)
 clear hS
 generalize wc.drew=U at *
 refine tkH 0 (oN 57 (Op.move (oT 2)) 22 "ref.go:75" #[]) ?ve0 bR (Or.inl ⟨by rfl,?he0⟩) ?re0
 case he0 =>
  intro u hu
  go_simp
  try with_reducible rfl
 (try simp only [pS])
 refine tkH 1 (oN 58 (Op.slice 22 (oT 57) (some (Operand.const (Value.int IntKind.i64 32))) none none) 22 "ref.go:75" #[jD 0]) (.slice (some ⟨sb,so+32,none⟩) 32 (sc - 32)) bR (Or.inl ⟨by rfl,?he1⟩) ?re1
 case he1 =>
  intro u hu
  go_simp
  try with_reducible rfl
 (try simp only [pS])
 refine tkH 4 (oN 61 (Op.load 68 (oT 13)) 68 "ref.go:75" #[]) (.agg (q64 t13.X t13.Y t13.Z t13.T).toArray) bR (ldH h13 68 13 Tryz.underlying68 (infoQ _ _ _ _)) ?_
 (try simp only [pS])
 clear h13
 refine callN 2 (oN 59 (cF1 18 #[oT 58] #[22]) 22 "ref.go:75" #[jD 1]) (cb U b) ?_
 rintro e w5 ⟨g5,k5,rfl,hk5,hr5,hb5⟩
 refine ⟨_,rfl,hb5,?_⟩
 replace b:=below_next b hb5
 have s5:=Str.of (rowB hr5 (Nat.le_refl _) (by decide) hk5) (encB_lt _)
 clear hb5 hr5 cb
 (try simp only [pS])
 refine tkH 3 (oN 60 (Op.convert 22 9 (oT 59)) 9 "ref.go:75" #[jD 2]) (.string (strB 32 (encB PS))) bR (Or.inl ⟨by rfl,?he3⟩) ?re3
 case he3 =>
  intro u hu
  have q:=s5.conv u hu
  go_simp
  try with_reducible rfl
 (try simp only [pS])
 refine callN 5 (oN 62 (cF1 36 #[oT 61] #[68]) 22 "ref.go:75" #[jD 4,jC 2]) (cE w5) ?_
 rintro e w6 ⟨s6,rfl,hn6,hb6⟩
 refine ⟨_,rfl,hb6,?_⟩
 replace b:=below_next b hb6
 obtain ⟨g6,k6,rfl,hk6,-,hr6⟩:=hn6
 have s6:=Str.of (rowB hr6 (Nat.le_refl _) (by decide) hk6) (encB_lt _)
 clear hb6 hr6 cE s5
 (try simp only [pS])
 refine tkH 6 (oN 63 (Op.convert 22 9 (oT 62)) 9 "ref.go:75" #[jD 5]) (.string (strB 32 (encB PE))) bR (Or.inl ⟨by rfl,?he6⟩) ?re6
 case he6 =>
  intro u hu
  have q:=s6.conv u hu
  go_simp
  try with_reducible rfl
 (try simp only [pS])
 generalize strB 32 (encB PS)=X1 at *
 generalize strB 32 (encB PE)=X2 at *
 refine tkH 7 (oN 64 (Op.binOp BinOp.neq 9 (oT 60) (oT 63) 9) 4 "ref.go:75" #[jD 3,jD 6]) ?ve7 bR (Or.inl ⟨by rfl,?he7⟩) ?re7
 case he7 =>
  intro u hu
  go_simp
  try with_reducible rfl
 (try simp only [pS])
 refine wpAnyH_done (by kernel_rfl) ?_ _
 refine NoPanic.normal ?_
 rw [hK1,hPK] at hv
 clear hK1 hPK
 by_cases e:PS=PE
 · rw [if_pos e] at hv
   subst hv
   rw [show (!decide (PS=PE))=false by rw [decide_eq_true e];rfl]
   go_wp2
   go_ret
   exact ⟨rfl,b⟩
 · rw [if_neg e] at hv
   subst hv
   rw [show (!decide (PS=PE))=true by rw [decide_eq_false e];rfl]
   go_wp2
   go_ret
   exact ⟨rfl,b⟩
theorem rverify_any (p t s:Value) (np n q:Nat) (ps ts ss:Nat→Nat) (hps:∀ j,ps j<256) (hts:∀ j,ts j<256) (hss:∀ j,ss j<256) (hn:n<140737488352000) (w:World) (hp:BytesIn w p np ps) (ht:BytesIn w t n ts) (hs:BytesIn w s q ss) :
 Calls Tryz.prog 15 #[p,t,s] w fun e w'=>e = .returned (.int .i64 (verE np ps n ts q ss))∧Below w.heap.size w w':=by
 by_cases h:np=32∧q=64
 · obtain ⟨rfl,rfl⟩:=h
   by_cases hd:decN ps=none
   · rw [verE_pub hd]
     exact rverify_pub p t s n ps ts ss hps w hp ht hs hd
   · by_cases hd2:decN ss=none
     · rw [verE_sig hd (.inl hd2)]
       exact rverify_sig1 p t s n ps ts ss hps hss w hp ht hs hd hd2
     · by_cases hl:sOf ss<oL
       · exact rverify_main p t s n ps ts ss hps hts hss hn w hp ht hs hd hd2 hl
       · rw [verE_sig hd (.inr hl)]
         exact rverify_sig2 p t s n ps ts ss hps hss w hp ht hs hd hd2 hl
 · rw [verE_arg h]
   exact (rverify_arg p t s np q ps ss w hp hs h).mono fun e w' ⟨he,hw⟩=>⟨he,by rw [hw];exact Below.refl _ _⟩
end Go.Proofs.YtdgkmloabificaaGreatDoor
namespace Go.Proofs.YtdgkmloabificaaGreatDoor
open Go.RowKit
set_option maxRecDepth 20000 in
set_option maxHeartbeats 4000000 in
theorem signVerifies_any {G:World→Prop} {R:List Value→Fp × Fp→Prop} (cx:SgCtx G R) (p t s:Value) (n m q:Nat) (ps ts ss:Nat→Nat) (hps:∀ j,ps j<256) (hts:∀ j,ts j<256) (hss:∀ j,ss j<256) (hn0:n<140737488352000) (hm0:m<140737488352000) (hq0:q<140737488352000) (w:World) (hp:BytesIn w p n ps) (ht:BytesIn w t m ts) (hs:BytesIn w s q ss) (hG:G w) :
 Calls Tryz.prog 5 #[p,t,s] w fun e w'=>e = .returned (.bool true)∧Below w.heap.size w w':=by
 have hn:n<140737488355000:=by omega
 have hm:m<140737488355000:=by omega
 have hq:q<140737488355000:=by omega
 have hL:=lent_any p n ps w hp hn
 have hL2:=fun W ht=>lent_any t m ts W ht hm
 have hL3:=fun W hs=>lent_any s q ss W hs hq
 have hK:=fun W hG=>knows7 cx W hG
 have kk:=cx.api.keep
 have p1:=fun x y z W hx hy hz hG=>verify_any cx x y z n m q ps ts ss hps hts hss (by omega) W hx hy hz hG
 have p2:=fun W hx hy hz=>rverify_any p t s n m q ps ts ss hps hts hss hm0 W hx hy hz
 generalize verE n ps m ts q ss=er at *
 obtain ⟨xp,cp,hpe,-,-,-⟩:=hp.src
 subst hpe
 obtain ⟨xt,ct,hte,-,-,-⟩:=ht.src
 subst hte
 obtain ⟨xs,cs,hse,-,-,-⟩:=hs.src
 subst hse
 clear cx hn0 hm0 hq0
 go_enter Tryz.func5,Tryz.ntmps5
 go_wp2_with (first
  | (go_at_call 6;refine hL.mono ?_;clear hL;rintro e w1 ⟨g,cap,rfl,hcap,hg,hr,b⟩;(have hL2':=hL2 w1 (ht.still b));clear hL2)
  | (go_at_call 6;refine hL2'.mono ?_;clear hL2';rintro e w2 ⟨g',cap',rfl,hcap',hg',hr',hb2⟩;(replace hr:=hr.below hb2 (block_lt_of_cell (hr 0 (by omega)).1));(replace b:=below_next b hb2);clear hb2;(have hL3':=hL3 w2 (hs.still b));clear hL3)
  | (go_at_call 6;refine hL3'.mono ?_;clear hL3';rintro e w3 ⟨g3,cap3,rfl,hcap3,hg3,hr3,hb3⟩;(replace hr:=hr.below hb3 (block_lt_of_cell (hr 0 (by omega)).1));(replace hr':=hr'.below hb3 (block_lt_of_cell (hr' 0 (by omega)).1));(replace b:=below_next b hb3);clear hb3;(have c1:=p1 _ _ _ w3 (lent_bytes hr hcap) (lent_bytes hr' hcap') (lent_bytes hr3 hcap3) (kk _ _ hG b));clear p1)
  | (go_at_call 14;refine c1.mono ?_;clear c1;rintro e w4 ⟨rfl,hb4⟩;(replace hr:=hr.below hb4 (block_lt_of_cell (hr 0 (by omega)).1));(replace hr':=hr'.below hb4 (block_lt_of_cell (hr' 0 (by omega)).1));(replace hr3:=hr3.below hb4 (block_lt_of_cell (hr3 0 (by omega)).1));(replace b:=below_next b hb4);clear hb4;(have c2:=p2 w4 (hp.still b) (ht.still b) (hs.still b));clear p2)
  | (go_at_call 15;refine c2.mono ?_;clear c2;rintro e w5 ⟨rfl,hb5⟩;(replace hr:=hr.below hb5 (block_lt_of_cell (hr 0 (by omega)).1));(replace hr':=hr'.below hb5 (block_lt_of_cell (hr' 0 (by omega)).1));(replace hr3:=hr3.below hb5 (block_lt_of_cell (hr3 0 (by omega)).1));(replace b:=below_next b hb5);clear hb5;(have cS:=stays_any g cap n (.slice xp n cp) ps hps w5 hn hcap hr (hp.still b));clear hr)
  | (go_at_call 9;refine (num7_any _ _).mono ?_;rintro e wn ⟨rfl,hwn⟩;subst hwn)
  | (go_at_call 10;refine cS.mono ?_;clear cS;rintro e w6 ⟨rfl,hb6⟩;(replace hr':=hr'.below hb6 (block_lt_of_cell (hr' 0 (by omega)).1));(replace hr3:=hr3.below hb6 (block_lt_of_cell (hr3 0 (by omega)).1));(replace b:=below_next b hb6);clear hb6;(have cS2:=stays_any g' cap' m (.slice xt m ct) ts hts w6 hm hcap' hr' (ht.still b));clear hr')
  | (go_at_call 10;refine cS2.mono ?_;clear cS2;rintro e w7 ⟨rfl,hb7⟩;(replace hr3:=hr3.below hb7 (block_lt_of_cell (hr3 0 (by omega)).1));(replace b:=below_next b hb7);clear hb7;(have cS3:=stays_any g3 cap3 q (.slice xs q cs) ss hss w7 hq hcap3 hr3 (hs.still b));clear hr3)
  | (go_at_call 10;refine cS3.mono ?_;clear cS3;rintro e w8 ⟨rfl,hb8⟩;(replace b:=below_next b hb8);(have cK:=hK w8 (kk _ _ hG b));clear hK hb8)
  | (go_at_call 11;refine cK.mono ?_;clear cK;rintro e w9 ⟨rfl,hb9⟩))
 go_ret
 exact ⟨rfl,below_next b hb9⟩
end Go.Proofs.YtdgkmloabificaaGreatDoor
