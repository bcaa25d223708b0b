/- What the proof stands on: SgVer, SgRef. -/
import Derived.Test.YtibdhadbflfdpaaGreatDoorHRefSumM
import Derived.Test.YtibdhadbflfdpaaGreatDoorRMul
import Derived.Test.YtibdhadbflfdpaaGreatDoorSgHashM
namespace Go.Proofs.YtibdhadbflfdpaaGreatDoor
open Nat renaming le_refl → JW
open Nat renaming lt_of_lt_of_le → JX
open Go renaming wpList_store_mid → J2
open Go renaming wpAnyH_done → J4
open Go.NoPanic renaming normal → J8
open Go.RowKit
theorem Dj {G:World→Prop} {R:List Value→Fp × Fp→Prop} (api:eB G R) (v:Value) (bs:Nat→Nat) (w:World) (hbs:∀ j,bs j<256) (hv:ae w v 32 bs) (hG:G w) (h:bv bs=none) :
 Calls Tryz.prog 53 #[v] w fun e w'=>∃ c:List Value,e = .returned (.tuple #[.agg c.toArray,.int .i64 30])∧R c dR∧Below w.heap.size w w' :=
 (api.dec v bs w hbs hv hG).mono fun e w' ⟨c,er,he,hb,hd⟩=>by
  rcases hd with ⟨rfl,hc,-⟩ | ⟨-,hs,-⟩
  · exact ⟨c,he,hc,hb⟩
  · rw [h] at hs;cases hs
theorem ky {G:World→Prop} {R:List Value→Fp × Fp→Prop} (api:eB G R) (v:Value) (bs:Nat→Nat) (w:World) (hbs:∀ j,bs j<256) (hv:ae w v 32 bs) (hG:G w) (h:bv bs≠none) :
 Calls Tryz.prog 53 #[v] w fun e w'=>∃ (c:List Value) (P:Fp × Fp),e = .returned (.tuple #[.agg c.toArray,.int .i64 0])∧R c P∧(∀ j,j<32→da P j=bs j)∧Below w.heap.size w w' :=
 (api.dec v bs w hbs hv hG).mono fun e w' ⟨c,er,he,hb,hd⟩=>by
  rcases hd with ⟨-,-,hn⟩ | ⟨rfl,-,P,hP,eP⟩
  · exact absurd hn h
  · exact ⟨c,P,he,hP,eP,hb⟩
set_option maxRecDepth 20000 in
set_option maxHeartbeats 4000000 in
theorem wU (p t s:Value) (n q:Nat) (ps ss:Nat→Nat) (w:World) (hp:ae w p n ps) (hs:ae w s q ss) (h:¬(n=32∧q=64)) :
 Calls Tryz.prog 26 #[p,t,s] w fun e w'=>e = .returned (.int .i64 1)∧w'=w:=by
 obtain ⟨xp,cp,rfl,-,-,-⟩:=hp.src;obtain ⟨xs,cs,rfl,-,-,-⟩:=hs.src;clear hp hs
 by_cases h1:n=32
 · have h2:¬((q:Int)=64):=by omega
   subst h1;go_enter Tryz.func26,Tryz.ntmps26;go_wp2;go_ret;exact ⟨rfl,rfl⟩
 · have h2:¬((n:Int)=32):=by omega
   go_enter Tryz.func26,Tryz.ntmps26;go_wp2;go_ret;exact ⟨rfl,rfl⟩
set_option maxRecDepth 20000 in
set_option maxHeartbeats 8000000 in
theorem wY {G:World→Prop} {R:List Value→Fp × Fp→Prop} (cx:gi G R) (p t s:Value) (n:Nat) (ps ts ss:Nat→Nat) (hps:∀ j,ps j<256) (w:World) (hp:ae w p 32 ps) (ht:ae w t n ts) (hs:ae w s 64 ss) (hG:G w) (hd:bv ps=none) :
 Calls Tryz.prog 26 #[p,t,s] w fun e w'=>e = .returned (.int .i64 (30))∧Below w.heap.size w w':=by
 have hz:=eF;have kk:=cx.api.keep;have kl:=cx.api.len;have ko:=cx.api.one;have kon:=cx.api.on
 rcases hs with ⟨_,_,h⟩ | ⟨sb,so,sc,rfl,hsl,hsc,hcell⟩
 · omega
 have hs1:∀ W,Below w.heap.size w W→ae W (.slice (some ⟨sb,so,none⟩) 32 sc) 32 ss:=fun W hW => .inr ⟨sb,so,sc,rfl,JX hsl hW.size,by omega,fun j hj=>(hW.cell (p:=⟨sb,so+j,none⟩) hsl).trans (hcell j (by omega))⟩
 have hs2:∀ W,Below w.heap.size w W→ae W (.slice (some ⟨sb,so+32,none⟩) 32 (sc - 32)) 32 (fun j=>ss (32+j)):=fun W hW => .inr ⟨sb,so+32,sc - 32,rfl,JX hsl hW.size,by omega,fun j hj=>by
  have:=(hW.cell (p:=⟨sb,so+(32+j),none⟩) hsl).trans (hcell (32+j) (by omega));rw [←Nat.add_assoc] at this
  exact this⟩
 have i1:(64:Int)≤(sc:Int):=by omega
 have i2:(32:Int)≤(sc:Int):=by omega
 have i3:¬(sc=32):=by omega
 have i4:((sc:Int) - 32).toNat=sc - 32:=by omega
 have i5:sc - 0=sc:=rfl;obtain ⟨xp,cp,rfl,hpn,hpc,hpsrc⟩:=hp.src;obtain ⟨xt,ct,rfl,htn,htc,htsrc⟩:=ht.src;clear hpsrc htsrc hcell;have cd:=Dj cx.api (.slice xp 32 cp) ps w hps hp hG hd;go_enter Tryz.func26,Tryz.ntmps26
 go_wp2_with (first
  | (go_at_call 53;refine cd.mono ?_;clear cd;rintro e w1 ⟨c1,rfl,hc1,b⟩;(have l1:=kl _ _ hc1);(have o1:=ko _ _ hc1);(obtain ⟨V1,hV1,h1,b1,t1⟩:=ug w1 c1 l1);(have H1:=Hid.mk' hV1);clear hV1;(replace b:=aa b b1);clear b1)
  | (with_reducible (refine id (?_:wpList _ _ _ _ _ _));refine J2 rfl 77 _ _ rfl w1.heap.size 0 c1.toArray rfl rfl t1 (ip l1) o1 ?_;rw [List.toList_toArray,←H1.out];clear t1 H1))
 go_ret;exact ⟨rfl,b⟩
set_option maxRecDepth 20000 in
set_option maxHeartbeats 8000000 in
theorem uP {G:World→Prop} {R:List Value→Fp × Fp→Prop} (cx:gi G R) (p t s:Value) (n:Nat) (ps ts ss:Nat→Nat) (hps:∀ j,ps j<256) (hss:∀ j,ss j<256) (w:World) (hp:ae w p 32 ps) (ht:ae w t n ts) (hs:ae w s 64 ss) (hG:G w) (hd:bv ps≠none) (hd2:bv ss=none) :
 Calls Tryz.prog 26 #[p,t,s] w fun e w'=>e = .returned (.int .i64 (31))∧Below w.heap.size w w':=by
 have hz:=eF;have kk:=cx.api.keep;have kl:=cx.api.len;have ko:=cx.api.one;have kon:=cx.api.on
 rcases hs with ⟨_,_,h⟩ | ⟨sb,so,sc,rfl,hsl,hsc,hcell⟩
 · omega
 have hs1:∀ W,Below w.heap.size w W→ae W (.slice (some ⟨sb,so,none⟩) 32 sc) 32 ss:=fun W hW => .inr ⟨sb,so,sc,rfl,JX hsl hW.size,by omega,fun j hj=>(hW.cell (p:=⟨sb,so+j,none⟩) hsl).trans (hcell j (by omega))⟩
 have hs2:∀ W,Below w.heap.size w W→ae W (.slice (some ⟨sb,so+32,none⟩) 32 (sc - 32)) 32 (fun j=>ss (32+j)):=fun W hW => .inr ⟨sb,so+32,sc - 32,rfl,JX hsl hW.size,by omega,fun j hj=>by
  have:=(hW.cell (p:=⟨sb,so+(32+j),none⟩) hsl).trans (hcell (32+j) (by omega));rw [←Nat.add_assoc] at this
  exact this⟩
 have i1:(64:Int)≤(sc:Int):=by omega
 have i2:(32:Int)≤(sc:Int):=by omega
 have i3:¬(sc=32):=by omega
 have i4:((sc:Int) - 32).toNat=sc - 32:=by omega
 have i5:sc - 0=sc:=rfl;obtain ⟨xp,cp,rfl,hpn,hpc,hpsrc⟩:=hp.src;obtain ⟨xt,ct,rfl,htn,htc,htsrc⟩:=ht.src;clear hpsrc htsrc hcell;have cd:=ky cx.api (.slice xp 32 cp) ps w hps hp hG hd;go_enter Tryz.func26,Tryz.ntmps26
 go_upto_region 6 with (first
  | (go_at_call 53;refine cd.mono ?_;clear cd;rintro e w1 ⟨c1,P1,rfl,hc1,e1,b⟩;(have l1:=kl _ _ hc1);(have o1:=ko _ _ hc1);(obtain ⟨V1,hV1,h1,b1,t1⟩:=ug w1 c1 l1);(have H1:=Hid.mk' hV1);clear hV1;(replace b:=aa b b1);clear b1)
  | (with_reducible (refine id (?_:wpList _ _ _ _ _ _));refine J2 rfl 77 _ _ rfl w1.heap.size 0 c1.toArray rfl rfl t1 (ip l1) o1 ?_;rw [List.toList_toArray,←H1.out];clear t1 H1))
 (try dsimp only [Act.put]);generalize hg1:w1.heap.size=g1 at *;clear hg1;replace h1:=h1.drew;replace b:=aa b ((Below.refl V1.heap.size V1).drew);refine wp_region_noPanic ?_;refine wp_region_held_drew (S:=fun w'=>Below V1.drew.heap.size V1.drew w') (by kernel_rfl) (Below.refl _ _) (fun hS => ?_);generalize V1.drew=V at *;refine tg 0 hS ?_;(try simp only [pS]);refine yu 1 (oN 29 (Op.slice 22 (oT 28) none (some (Operand.const (Value.int IntKind.i64 32))) none) 22 "sign.go:48" #[jD 0]) (.slice (some ⟨sb,so,none⟩) 32 sc) hS (Or.inl ⟨by rfl,?ha1⟩) ?ra1
 case ha1 =>
  intro u hu;go_simp
  try with_reducible rfl
 (try simp only [pS]);refine tg 2 hS ?_;(try simp only [pS]);refine yu 3 (oN 31 (Op.slice 22 (oT 30) (some (Operand.const (Value.int IntKind.i64 32))) none none) 22 "sign.go:48" #[jD 2]) (.slice (some ⟨sb,so+32,none⟩) 32 (sc - 32)) hS (Or.inl ⟨by rfl,?ha3⟩) ?ra3
 case ha3 =>
  intro u hu;go_simp
  try with_reducible rfl
 (try simp only [pS]);refine tg 4 hS ?_;(try simp only [pS]);refine tg 5 hS ?_;(try simp only [pS]);refine J4 (by kernel_rfl) ?_ _;refine J8 ?_;clear hS;have cd2:=Dj cx.api _ ss V hss (hs1 V b) (kk _ _ hG b) hd2
 go_wp2_with (first
  | (go_at_call 53;refine cd2.mono ?_;clear cd2;rintro e w2 ⟨c2,rfl,hc2,hb2⟩;(have l2:=kl _ _ hc2);(have o2:=ko _ _ hc2);(obtain ⟨V2,hV2,h2,b2,t2⟩:=ug w2 c2 l2);(have H2:=Hid.mk' hV2);clear hV2;(replace b:=aa (aa b hb2) b2);clear b2 hb2)
  | (with_reducible (refine id (?_:wpList _ _ _ _ _ _));refine J2 rfl 77 _ _ rfl w2.heap.size 0 c2.toArray rfl rfl t2 (ip l2) o2 ?_;rw [List.toList_toArray,←H2.out];clear t2 H2))
 go_ret;exact ⟨rfl,b⟩
set_option maxRecDepth 20000 in
set_option maxHeartbeats 8000000 in
theorem tK {G:World→Prop} {R:List Value→Fp × Fp→Prop} (cx:gi G R) (p t s:Value) (n:Nat) (ps ts ss:Nat→Nat) (hps:∀ j,ps j<256) (hss:∀ j,ss j<256) (w:World) (hp:ae w p 32 ps) (ht:ae w t n ts) (hs:ae w s 64 ss) (hG:G w) (hd:bv ps≠none) (hd2:bv ss≠none) (hl:¬tG ss<oL) :
 Calls Tryz.prog 26 #[p,t,s] w fun e w'=>e = .returned (.int .i64 (31))∧Below w.heap.size w w':=by
 have hz:=eF;have kk:=cx.api.keep;have kl:=cx.api.len;have ko:=cx.api.one;have kon:=cx.api.on;have hca:gA (fun j=>ss (32+j))=false:=decide_eq_false hl
 rcases hs with ⟨_,_,h⟩ | ⟨sb,so,sc,rfl,hsl,hsc,hcell⟩
 · omega
 have hs1:∀ W,Below w.heap.size w W→ae W (.slice (some ⟨sb,so,none⟩) 32 sc) 32 ss:=fun W hW => .inr ⟨sb,so,sc,rfl,JX hsl hW.size,by omega,fun j hj=>(hW.cell (p:=⟨sb,so+j,none⟩) hsl).trans (hcell j (by omega))⟩
 have hs2:∀ W,Below w.heap.size w W→ae W (.slice (some ⟨sb,so+32,none⟩) 32 (sc - 32)) 32 (fun j=>ss (32+j)):=fun W hW => .inr ⟨sb,so+32,sc - 32,rfl,JX hsl hW.size,by omega,fun j hj=>by
  have:=(hW.cell (p:=⟨sb,so+(32+j),none⟩) hsl).trans (hcell (32+j) (by omega));rw [←Nat.add_assoc] at this
  exact this⟩
 have i1:(64:Int)≤(sc:Int):=by omega
 have i2:(32:Int)≤(sc:Int):=by omega
 have i3:¬(sc=32):=by omega
 have i4:((sc:Int) - 32).toNat=sc - 32:=by omega
 have i5:sc - 0=sc:=rfl;obtain ⟨xp,cp,rfl,hpn,hpc,hpsrc⟩:=hp.src;obtain ⟨xt,ct,rfl,htn,htc,htsrc⟩:=ht.src;clear hpsrc htsrc hcell;have cd:=ky cx.api (.slice xp 32 cp) ps w hps hp hG hd;go_enter Tryz.func26,Tryz.ntmps26
 go_upto_region 6 with (first
  | (go_at_call 53;refine cd.mono ?_;clear cd;rintro e w1 ⟨c1,P1,rfl,hc1,e1,b⟩;(have l1:=kl _ _ hc1);(have o1:=ko _ _ hc1);(obtain ⟨V1,hV1,h1,b1,t1⟩:=ug w1 c1 l1);(have H1:=Hid.mk' hV1);clear hV1;(replace b:=aa b b1);clear b1)
  | (with_reducible (refine id (?_:wpList _ _ _ _ _ _));refine J2 rfl 77 _ _ rfl w1.heap.size 0 c1.toArray rfl rfl t1 (ip l1) o1 ?_;rw [List.toList_toArray,←H1.out];clear t1 H1))
 (try dsimp only [Act.put]);generalize hg1:w1.heap.size=g1 at *;clear hg1;replace h1:=h1.drew;replace b:=aa b ((Below.refl V1.heap.size V1).drew);refine wp_region_noPanic ?_;refine wp_region_held_drew (S:=fun w'=>Below V1.drew.heap.size V1.drew w') (by kernel_rfl) (Below.refl _ _) (fun hS => ?_);generalize V1.drew=V at *;refine tg 0 hS ?_;(try simp only [pS]);refine yu 1 (oN 29 (Op.slice 22 (oT 28) none (some (Operand.const (Value.int IntKind.i64 32))) none) 22 "sign.go:48" #[jD 0]) (.slice (some ⟨sb,so,none⟩) 32 sc) hS (Or.inl ⟨by rfl,?ha1⟩) ?ra1
 case ha1 =>
  intro u hu;go_simp
  try with_reducible rfl
 (try simp only [pS]);refine tg 2 hS ?_;(try simp only [pS]);refine yu 3 (oN 31 (Op.slice 22 (oT 30) (some (Operand.const (Value.int IntKind.i64 32))) none none) 22 "sign.go:48" #[jD 2]) (.slice (some ⟨sb,so+32,none⟩) 32 (sc - 32)) hS (Or.inl ⟨by rfl,?ha3⟩) ?ra3
 case ha3 =>
  intro u hu;go_simp
  try with_reducible rfl
 (try simp only [pS]);refine tg 4 hS ?_;(try simp only [pS]);refine tg 5 hS ?_;(try simp only [pS]);refine J4 (by kernel_rfl) ?_ _;refine J8 ?_;clear hS;have cd2:=ky cx.api _ ss V hss (hs1 V b) (kk _ _ hG b) hd2
 go_wp2_with (first
  | (go_at_call 53;refine cd2.mono ?_;clear cd2;rintro e w2 ⟨c2,P2,rfl,hc2,e2,hb2⟩;(have l2:=kl _ _ hc2);(have o2:=ko _ _ hc2);(obtain ⟨V2,hV2,h2,b2,t2⟩:=ug w2 c2 l2);(have H2:=Hid.mk' hV2);clear hV2;(replace h1:=(h1.still hb2).still b2);(replace b:=aa (aa b hb2) b2);clear b2 hb2;(have cc:=iX _ (fun j=>ss (32+j)) (fun j=>hss _) V2 (cx.ord _ (kk _ _ hG b)) (hs2 V2 b));rw [hca] at cc)
  | (with_reducible (refine id (?_:wpList _ _ _ _ _ _));refine J2 rfl 77 _ _ rfl w2.heap.size 0 c2.toArray rfl rfl t2 (ip l2) o2 ?_;rw [List.toList_toArray,←H2.out];clear t2 H2)
  | (go_at_call 54;refine cc.mono ?_;clear cc;rintro e w3 ⟨rfl,hb3⟩;(replace h1:=h1.still hb3);(replace h2:=h2.still hb3);(replace b:=aa b hb3);clear hb3))
 go_ret;exact ⟨rfl,b⟩
set_option maxRecDepth 20000 in
set_option maxHeartbeats 8000000 in
theorem tS {G:World→Prop} {R:List Value→Fp × Fp→Prop} (cx:gi G R) (p t s:Value) (n:Nat) (ps ts ss:Nat→Nat) (hps:∀ j,ps j<256) (hts:∀ j,ts j<256) (hss:∀ j,ss j<256) (hn:n<1152921504606846976) (w:World) (hp:ae w p 32 ps) (ht:ae w t n ts) (hs:ae w s 64 ss) (hG:G w) (hd:bv ps≠none) (hd2:bv ss≠none) (hl:tG ss<oL) :
 Calls Tryz.prog 26 #[p,t,s] w fun e w'=>e = .returned (.int .i64 (j8 32 ps n ts 64 ss))∧Below w.heap.size w w':=by
 have hz:=eF;have kk:=cx.api.keep;have kl:=cx.api.len;have ko:=cx.api.one;have kon:=cx.api.on;have hca:gA (fun j=>ss (32+j))=true:=decide_eq_true hl
 have hver:=fun P Q hP hQ eP eQ=>uT (m:=n) (t:=ts) hd hd2 hl (P:=P) (Q:=Q) hP hQ eP eQ
 generalize hres:j8 32 ps n ts 64 ss=res at *
 rcases hs with ⟨_,_,h⟩ | ⟨sb,so,sc,rfl,hsl,hsc,hcell⟩
 · omega
 have hs1:∀ W,Below w.heap.size w W→ae W (.slice (some ⟨sb,so,none⟩) 32 sc) 32 ss:=fun W hW => .inr ⟨sb,so,sc,rfl,JX hsl hW.size,by omega,fun j hj=>(hW.cell (p:=⟨sb,so+j,none⟩) hsl).trans (hcell j (by omega))⟩
 have hs2:∀ W,Below w.heap.size w W→ae W (.slice (some ⟨sb,so+32,none⟩) 32 (sc - 32)) 32 (fun j=>ss (32+j)):=fun W hW => .inr ⟨sb,so+32,sc - 32,rfl,JX hsl hW.size,by omega,fun j hj=>by
  have:=(hW.cell (p:=⟨sb,so+(32+j),none⟩) hsl).trans (hcell (32+j) (by omega));rw [←Nat.add_assoc] at this
  exact this⟩
 have i1:(64:Int)≤(sc:Int):=by omega
 have i2:(32:Int)≤(sc:Int):=by omega
 have i3:¬(sc=32):=by omega
 have i4:((sc:Int) - 32).toNat=sc - 32:=by omega
 have i5:sc - 0=sc:=rfl;obtain ⟨xp,cp,rfl,hpn,hpc,hpsrc⟩:=hp.src;obtain ⟨xt,ct,rfl,htn,htc,htsrc⟩:=ht.src;clear hpsrc htsrc hcell;have cd:=ky cx.api (.slice xp 32 cp) ps w hps hp hG hd;go_enter Tryz.func26,Tryz.ntmps26
 go_upto_region 6 with (first
  | (go_at_call 53;refine cd.mono ?_;clear cd;rintro e w1 ⟨c1,P1,rfl,hc1,e1,b⟩;(have l1:=kl _ _ hc1);(have o1:=ko _ _ hc1);(obtain ⟨V1,hV1,h1,b1,t1⟩:=ug w1 c1 l1);(have H1:=Hid.mk' hV1);clear hV1;(replace b:=aa b b1);clear b1)
  | (with_reducible (refine id (?_:wpList _ _ _ _ _ _));refine J2 rfl 77 _ _ rfl w1.heap.size 0 c1.toArray rfl rfl t1 (ip l1) o1 ?_;rw [List.toList_toArray,←H1.out];clear t1 H1))
 (try dsimp only [Act.put]);generalize hg1:w1.heap.size=g1 at *;clear hg1;replace h1:=h1.drew;replace b:=aa b ((Below.refl V1.heap.size V1).drew);refine wp_region_noPanic ?_;refine wp_region_held_drew (S:=fun w'=>Below V1.drew.heap.size V1.drew w') (by kernel_rfl) (Below.refl _ _) (fun hS => ?_);generalize V1.drew=V at *;refine tg 0 hS ?_;(try simp only [pS]);refine yu 1 (oN 29 (Op.slice 22 (oT 28) none (some (Operand.const (Value.int IntKind.i64 32))) none) 22 "sign.go:48" #[jD 0]) (.slice (some ⟨sb,so,none⟩) 32 sc) hS (Or.inl ⟨by rfl,?ha1⟩) ?ra1
 case ha1 =>
  intro u hu;go_simp
  try with_reducible rfl
 (try simp only [pS]);refine tg 2 hS ?_;(try simp only [pS]);refine yu 3 (oN 31 (Op.slice 22 (oT 30) (some (Operand.const (Value.int IntKind.i64 32))) none none) 22 "sign.go:48" #[jD 2]) (.slice (some ⟨sb,so+32,none⟩) 32 (sc - 32)) hS (Or.inl ⟨by rfl,?ha3⟩) ?ra3
 case ha3 =>
  intro u hu;go_simp
  try with_reducible rfl
 (try simp only [pS]);refine tg 4 hS ?_;(try simp only [pS]);refine tg 5 hS ?_;(try simp only [pS]);refine J4 (by kernel_rfl) ?_ _;refine J8 ?_;clear hS;have cd2:=ky cx.api _ ss V hss (hs1 V b) (kk _ _ hG b) hd2
 go_upto_region 11 with (first
  | (go_at_call 53;refine cd2.mono ?_;clear cd2;rintro e w2 ⟨c2,P2,rfl,hc2,e2,hb2⟩;(have l2:=kl _ _ hc2);(have o2:=ko _ _ hc2);(obtain ⟨V2,hV2,h2,b2,t2⟩:=ug w2 c2 l2);(have H2:=Hid.mk' hV2);clear hV2;(replace h1:=(h1.still hb2).still b2);(replace b:=aa (aa b hb2) b2);clear b2 hb2;(have cc:=iX _ (fun j=>ss (32+j)) (fun j=>hss _) V2 (cx.ord _ (kk _ _ hG b)) (hs2 V2 b));rw [hca] at cc)
  | (with_reducible (refine id (?_:wpList _ _ _ _ _ _));refine J2 rfl 77 _ _ rfl w2.heap.size 0 c2.toArray rfl rfl t2 (ip l2) o2 ?_;rw [List.toList_toArray,←H2.out];clear t2 H2)
  | (go_at_call 54;refine cc.mono ?_;clear cc;rintro e w3 ⟨rfl,hb3⟩;(replace h1:=h1.still hb3);(replace h2:=h2.still hb3);(replace b:=aa b hb3);clear hb3)
  | (go_at_call 42;refine (yO cx hss hps hts w3 (hs1 w3 b) (hp.still b) (ht.still b) (kk _ _ hG b) (by omega)).mono ?_;rintro e w4 ⟨g4,rfl,hg4,hr4,hb4⟩;(replace h1:=h1.still hb4);(replace h2:=h2.still hb4);(replace b:=aa b hb4);clear hb4 hg4))
 (try dsimp only [Act.put]);generalize hg2:w2.heap.size=g2 at *;clear hg2;replace h1:=h1.drew;replace h2:=h2.drew;replace hr4:=hr4.drew;replace b:=aa b ((Below.refl w4.heap.size w4).drew);have hG4:=kk _ _ hG b;refine wp_region_noPanic ?_;refine wp_region_held_drew (S:=fun w'=>Below w4.drew.heap.size w4.drew w') (by kernel_rfl) (Below.refl _ _) (fun hS => ?_);generalize w4.drew=U at *;refine tg 1 hS ?_;(try simp only [pS]);refine tk 3 (.agg c2.toArray) hS (hy:=(d9 h2 77 11 Tryz.underlying77 (fX l2))) (h := ?_);(try simp only [pS]);refine tk 4 (.agg c1.toArray) hS (hy:=(d9 h1 77 7 Tryz.underlying77 (fX l1))) (h := ?_);(try simp only [pS]);refine tg 5 hS ?_;(try simp only [pS]);refine cl 0 (cx.api.base U hG4) ?_;rintro e w5 ⟨c5,rfl,hc5,hb5⟩;replace hS:=aa hS hb5;replace hr4:=hr4.stillB hb5;replace hG4:=kk _ _ hG4 hb5;clear hb5;refine ⟨_,rfl,hS,?_⟩;(try simp only [pS]);refine cl 2 (j9 cx.api c5 _ hc5 _ _ (fun j=>hss _) w5 (hs2 w5 (b.trans (hS.mono b.size))) hG4) ?_;rintro e w6 ⟨c6,rfl,hc6,hb6⟩;replace hS:=aa hS hb6;replace hr4:=hr4.stillB hb6;replace hG4:=kk _ _ hG4 hb6;clear hb6 hc5;refine ⟨_,rfl,hS,?_⟩;(try simp only [pS]);refine cl 6 (j9 cx.api c1 _ hc1 (.slice (some ⟨g4,0,none⟩) 32 32) _ (dD _) w6 (hJ hr4 (JW _) (by decide) (by decide)) hG4) ?_;rintro e w7 ⟨c7,rfl,hc7,hb7⟩;replace hS:=aa hS hb7;replace hG4:=kk _ _ hG4 hb7;clear hb7;refine ⟨_,rfl,hS,?_⟩;(try simp only [pS]);refine cl 7 (cx.api.plus c2 _ c7 _ w7 hc2 hc7 hG4) ?_;rintro e w8 ⟨c8,rfl,hc8,hb8⟩;replace hS:=aa hS hb8;replace hG4:=kk _ _ hG4 hb8;clear hb8;refine ⟨_,rfl,hS,?_⟩;(try simp only [pS])
 have ez:(cK dE (aK (fun j=>ss (32+j)) 32) iw=dc dE P2 (cK dE (aK (bf (hL (32+32+n) (bu (32+32) (bu 32 ss ps) ts))) 32) P1))=(bP (tG ss)=dc dE P2 (cK dE (kN ss ps n ts) P1)):=by
  show (bP (tG ss)=dc dE P2 (cK dE (aK (bf (kN ss ps n ts)) 32) P1))=_;rw [yQ]
 obtain ⟨z,hz',c9⟩:∃ z:Bool,(z=true↔bP (tG ss)=dc dE P2 (cK dE (kN ss ps n ts) P1))∧Calls Tryz.prog 55 #[.agg c6.toArray,.agg c8.toArray] w8 fun e w'=>e = .returned (.bool z)∧Below w8.heap.size w8 w':=⟨_,decide_eq_true_iff.trans (iff_of_eq ez),cx.api.same c6 _ c8 _ w8 hc6 hc8 hG4⟩
 clear ez;refine cl 8 (c9) ?_;rintro e w9 ⟨rfl,hb9⟩;replace hS:=aa hS hb9;clear hb9;refine ⟨_,rfl,hS,?_⟩;(try simp only [pS]);refine tg 9 hS ?_;(try simp only [pS]);refine J4 (by kernel_rfl) ?_ _;refine J8 ?_;have fin:=b.trans (hS.mono b.size);clear hc6 hc7 hc8 hS h1 h2 hr4;have hv:=hver P1 P2 (kon _ _ hc1) (kon _ _ hc2) e1 e2;cases z
 · rw [if_neg (fun h=>Bool.noConfusion (hz'.2 h))] at hv
   subst hv;go_wp2;go_ret;exact ⟨rfl,fin⟩
 · rw [if_pos (hz'.1 rfl)] at hv
   subst hv;go_wp2;go_ret;exact ⟨rfl,fin⟩
theorem xM {G:World→Prop} {R:List Value→Fp × Fp→Prop} (cx:gi G R) (p t s:Value) (np n q:Nat) (ps ts ss:Nat→Nat) (hps:∀ j,ps j<256) (hts:∀ j,ts j<256) (hss:∀ j,ss j<256) (hn:n<1152921504606846976) (w:World) (hp:ae w p np ps) (ht:ae w t n ts) (hs:ae w s q ss) (hG:G w) :
 Calls Tryz.prog 26 #[p,t,s] w fun e w'=>e = .returned (.int .i64 (j8 np ps n ts q ss))∧Below w.heap.size w w':=by
 by_cases h:np=32∧q=64
 · obtain ⟨rfl,rfl⟩:=h
   by_cases hd:bv ps=none
   · rw [vK hd]
     exact wY cx p t s n ps ts ss hps w hp ht hs hG hd
   · by_cases hd2:bv ss=none
     · rw [kZ hd (.inl hd2)]
       exact uP cx p t s n ps ts ss hps hss w hp ht hs hG hd hd2
     · by_cases hl:tG ss<oL
       · exact tS cx p t s n ps ts ss hps hts hss hn w hp ht hs hG hd hd2 hl
       · rw [kZ hd (.inr hl)]
         exact tK cx p t s n ps ts ss hps hss w hp ht hs hG hd hd2 hl
 · rw [ue h]
   exact (wU p t s np q ps ss w hp hs h).mono fun e w' ⟨he,hw⟩=>⟨he,by rw [hw];exact Below.refl _ _⟩
theorem mQ (w:World) (t:P4):∃ V,V=(w.alloc (.cells zQ 94)).setCells w.heap.size 0 (aW t.X t.Y t.Z t.T)∧RW V w.heap.size 0 (aW t.X t.Y t.Z t.T)∧Below w.heap.size w V∧(w.alloc (.cells zQ 94)).there w.heap.size 0 (aW t.X t.Y t.Z t.T).toArray.size :=
 ⟨_,rfl,(eT w).stored _ (bk _ _ _ _ _ _ _ _),ac (JW _) _ _ _ ((Below.refl _ _).alloc (JW _) _),bj (eT w)⟩
theorem Fm (v:Value) (n:Nat) (bs:Nat→Nat) (hbs:∀ j,bs j<256) (w:World) (hv:ae w v n bs) (hn:n<140737488355000) :
 Calls Tryz.prog 103 #[v] w fun e w'=>∃ g cap,e = .returned (.slice (some ⟨g,0,none⟩) 64 cap)∧64≤cap∧ah .u8 w' g 0 64 (h5 n bs)∧Below w.heap.size w w' :=
 (tT v n bs hbs w hv hn).mono fun e w' ⟨v',he,hown,hb⟩=>by
  obtain ⟨g,cap,rfl,-,-,hc,hr⟩:=hown.form.resolve_left (fun h=>by omega);exact ⟨g,cap,he,hc,hr,hb⟩
set_option maxRecDepth 20000 in
set_option maxHeartbeats 4000000 in
theorem ms (va vb vc:Value) (na nb nc:Nat) (a b c:Nat→Nat) (ha:∀ j,a j<256) (hb:∀ j,b j<256) (hc:∀ j,c j<256) (w:World) (h1:ae w va na a) (h2:ae w vb nb b) (h3:ae w vc nc c) (hn:na+nb+nc<140737488355000) :
 Calls Tryz.prog 49 #[va,vb,vc] w fun e w'=>∃ s,e = .returned s∧ae w' s 32 (bf (hL (na+nb+nc) (bu (na+nb) (bu na a b) c)))∧Below w.heap.size w w':=by
 obtain ⟨xa,ca,rfl,hxa,-,srca⟩:=h1.src;obtain ⟨xb,cb,rfl,hxb,-,srcb⟩:=h2.src;obtain ⟨xc,cc,rfl,hxc,-,srcc⟩:=h3.src;have src0:=srca _ ((Below.refl _ _).alloc (JW _) (.cells #[] 5));have hl:=il (n:=na+nb) (il (n:=na) ha hb) hc
 have cs:=fun v W hv=>Fm v (na+nb+nc) (bu (na+nb) (bu na a b) c) hl W hv hn
 have cr:=fun v W hv=>lj v 64 (h5 (na+nb+nc) (bu (na+nb) (bu na a b) c)) (rh _ _) (by decide) W hv
 have hZ:aK (h5 (na+nb+nc) (bu (na+nb) (bu na a b) c)) 64%oL=hL (na+nb+nc) (bu (na+nb) (bu na a b) c):=rfl;rw [hZ] at cr;generalize h5 (na+nb+nc) (bu (na+nb) (bu na a b) c)=Y at *;generalize hL (na+nb+nc) (bu (na+nb) (bu na a b) c)=Z at *;clear h1 h2 h3 srca hZ hl ha hb hc;go_enter Tryz.func49,Tryz.ntmps49
 go_wp2_with (first
  | (at_builtin;refine bn rfl (.tmp 10) (.tmp 11) rfl w.heap.size a _ rfl rfl xa na ca rfl src0 hxa (by omega) (JW _) ?_;intro v1 w1 own1 hb1;clear src0;(have src1:=srcb w1 hb1);clear srcb)
  | (at_builtin;refine aR rfl (.tmp 12) (.tmp 13) rfl w.heap.size v1 na a rfl own1 xb nb cb b rfl src1 hxb (by omega) hb1.size ?_;intro v2 w2 own2 grow2;(have hb2:Below w.heap.size w w2:=bx.grown hb1 grow2 own1 (JW _) hb1.size);clear own1 src1 grow2;(have src2:=srcc w2 hb2);clear srcc)
  | (at_builtin;refine aR rfl (.tmp 14) (.tmp 15) rfl w.heap.size v2 (na+nb) (bu na a b) rfl own2 xc nc cc c rfl src2 hxc (by omega) hb2.size ?_;intro v3 w3 own3 grow3;(have hb3:Below w.heap.size w w3:=bx.grown hb2 grow3 own2 (JW _) hb2.size);clear own2 src2 grow3;(have cs3:=cs v3 w3 (ae.of_own own3));clear cs)
  | (go_at_call 103;refine cs3.mono ?_;clear cs3;rintro e w4 ⟨g4,k4,rfl,hk4,hr4,hb4⟩;(have b4:=aa hb3 hb4);(have cr4:=cr _ w4 (hJ (n:=64) hr4 (JW _) (by decide) hk4));clear cr)
  | (go_at_call 105;refine cr4.mono ?_;clear cr4;rintro e w5 ⟨s5,rfl,hs5,hb5⟩))
 go_ret;exact ⟨_,rfl,hs5,aa b4 hb5⟩
set_option maxRecDepth 20000 in
set_option maxHeartbeats 4000000 in
theorem nT (v:Value) (ks:Nat→Nat) (hks:∀ j,ks j<256) (w:World) (hv:ae w v 32 ks) :
 Calls Tryz.prog 50 #[v] w fun e w'=>∃ g cap,e = .returned (.slice (some ⟨g,0,none⟩) 32 cap)∧32≤cap∧ah .u8 w' g 0 32 (da (bP (aK ks 32)))∧Below w.heap.size w w':=by
 have hzq:=jd
 have cb:Calls Tryz.prog 106 #[] w fun e w'=>∃ t:P4,e = .returned (.agg (aW t.X t.Y t.Z t.T).toArray)∧t.Pt iw∧Below w.heap.size w w':=C5 w
 have ct:∀ (r:P4) W,r.Pt iw→ae W v 32 ks→Calls Tryz.prog 59 #[.agg (aW r.X r.Y r.Z r.T).toArray,v] W fun e w'=>∃ t:P4,e = .returned (.tuple #[.agg (aW t.X t.Y t.Z t.T).toArray,.int .i64 0])∧t.Pt (bP (aK ks 32))∧Below W.heap.size W w':=fun r W hr hv=>qn hr v ks hks W hv
 have ce:∀ (r:P4) W,r.Pt (bP (aK ks 32))→Calls Tryz.prog 62 #[.agg (aW r.X r.Y r.Z r.T).toArray] W fun e w'=>∃ s,e = .returned s∧gv W w' s 32 (da (bP (aK ks 32)))∧Below W.heap.size W w':=fun r W hr=>yK hr W
 generalize da (bP (aK ks 32))=Y at *;generalize bP (aK ks 32)=P at *;obtain ⟨xv,cv,rfl,-,-,-⟩:=hv.src;go_enter Tryz.func50,Tryz.ntmps50
 go_wp2_with (first
  | (go_at_call 106;refine cb.mono ?_;clear cb;rintro e w1 ⟨t1,rfl,ht1,hb1⟩;(have ct1:=ct t1 w1 ht1 (hv.still hb1));clear ct)
  | (go_at_call 59;refine ct1.mono ?_;clear ct1;rintro e w2 ⟨t2,rfl,ht2,hb2⟩;(have b:=aa hb1 hb2);clear hb2;(obtain ⟨V2,hV2,h2,b2,u2⟩:=mQ w2 t2);(have H2:=Hid.mk' hV2);clear hV2;(replace b:=aa b b2);clear b2;(have ce2:=ce t2 V2 ht2);clear ce)
  | (with_reducible (refine id (?_:wpList _ _ _ _ _ _));refine J2 rfl 94 _ _ rfl w2.heap.size 0 (aW t2.X t2.Y t2.Z t2.T).toArray rfl rfl u2 (bt _ _ _ _) (eq _ _ _ _) ?_;rw [List.toList_toArray,←H2.out];clear u2 H2)
  | (refine wpList_load_mid rfl 94 _ rfl w2.heap.size 0 rfl (aW t2.X t2.Y t2.Z t2.T) _ h2.range Tryz.underlying94 rfl (dQ _ _ _ _) ?_)
  | (go_at_call 62;refine ce2.mono ?_;clear ce2;rintro e w3 ⟨s3,rfl,hn3,hb3⟩;(obtain ⟨g3,k3,rfl,hk3,-,hr3⟩:=hn3)))
 go_ret;exact ⟨g3,k3,rfl,hk3,hr3,aa b hb3⟩
set_option maxRecDepth 20000 in
set_option maxHeartbeats 4000000 in
theorem xL (v:Value) (bs:Nat→Nat) (hbs:∀ j,bs j<256) (w:World) (hv:ae w v 32 bs) :
 Calls Tryz.prog 48 #[v] w fun e w'=>∃ ga ca gh kh,e = .returned (.tuple #[.slice (some ⟨ga,0,none⟩) 32 ca,.slice (some ⟨gh,32,none⟩) 32 kh])∧32≤ca∧32≤kh∧ah .u8 w' ga 0 32 (aB bs)∧ah .u8 w' gh 32 32 (tc bs)∧Below w.heap.size w w':=by
 have cs:=Fm v 32 bs hbs w hv (by decide)
 have cc:∀ gh cap W,64≤cap→ah .u8 W gh 0 64 (h5 32 bs)→Calls Tryz.prog 104 #[.slice (some ⟨gh,0,none⟩) 32 cap] W fun e w'=>∃ s,e = .returned (.tuple #[s,.int .i64 0])∧gv W w' s 32 (aB bs)∧Below W.heap.size W w':=fun gh cap W hc hr=>vE _ (h5 32 bs) (rh _ _) W (hJ hr (by decide) (by decide) (by omega))
 obtain ⟨xv,cv,rfl,-,-,-⟩:=hv.src;clear hv;go_enter Tryz.func48,Tryz.ntmps48
 go_upto_region 3 with (first
  | (go_at_call 103;refine cs.mono ?_;clear cs;rintro e w1 ⟨gh,kh,rfl,hkh,hrh,b⟩;(have cc1:=cc gh kh w1 hkh hrh);clear cc;(have i1:(64:Int)≤(kh:Int):=by omega);(have i2:(32:Int)≤(kh:Int):=by omega);(have i3:¬(kh=32):=by omega);(have i4:((kh:Int) - 32).toNat=kh - 32:=by omega))
  | (go_at_call 104;refine cc1.mono ?_;clear cc1;rintro e w2 ⟨s2,rfl,hn2,hb2⟩;(replace hrh:=hrh.stillB hb2);(replace b:=aa b hb2);clear hb2;(obtain ⟨ga,ca,rfl,hca,-,hra⟩:=hn2)))
 (try dsimp only [Act.put]);replace hrh:=hrh.drew;replace hra:=hra.drew;replace b:=aa b ((Below.refl w2.heap.size w2).drew);refine wp_region_noPanic ?_;refine wp_region_held_drew (S:=fun w'=>Below w2.drew.heap.size w2.drew w') (by kernel_rfl) (Below.refl _ _) (fun hS => ?_);generalize w2.drew=V at *;refine tg 0 hS ?_;(try simp only [pS]);refine tg 1 hS ?_;(try simp only [pS]);refine yu 2 (oN 17 (Op.slice 22 (oT 16) (some (Operand.const (Value.int IntKind.i64 32))) none none) 22 "ref.go:36" #[jD 1]) (.slice (some ⟨gh,32,none⟩) 32 (kh - 32)) hS (Or.inl ⟨by rfl,?h2⟩) ?r2
 case h2 =>
  intro u hu;go_simp
  try with_reducible rfl
 (try simp only [pS]);refine tg 3 hS ?_;(try simp only [pS]);refine tg 4 hS ?_;(try simp only [pS]);refine J4 (by kernel_rfl) ?_ _;refine J8 ?_;clear hS;go_wp2;go_ret2;refine ⟨ga,ca,gh,kh - 32,rfl,hca,by omega,hra,fun j hj => ?_,b⟩;have q:=hrh (32+j) (by omega);rw [Nat.zero_add] at q;exact q
set_option maxRecDepth 20000 in
set_option maxHeartbeats 4000000 in
theorem AB (v t:Value) (n:Nat) (bs:Nat→Nat) (w:World) (hv:ae w v n bs) (hn:n≠32) :
 Calls Tryz.prog 24 #[v,t] w fun e w'=>e = .returned (.tuple #[.slice none 0 0,.int .i64 1])∧w'=w:=by
 obtain ⟨xo,c,rfl,-,-,-⟩:=hv.src
 have h1:¬((n:Int)=32):=by omega
 clear hv;go_enter Tryz.func24,Tryz.ntmps24;go_wp2;exact bodyPost_ret (results_tmp2 rfl _ _ _) rfl ⟨rfl,rfl⟩
theorem G6 (w:World):ae w (.slice none 0 0) 0 (fun _=>0) := .inl ⟨none,rfl,rfl⟩
set_option maxRecDepth 20000 in
set_option maxHeartbeats 8000000 in
theorem xI (v t:Value) (n:Nat) (bs ts:Nat→Nat) (hbs:∀ j,bs j<256) (hts:∀ j,ts j<256) (hn:n<140737488352000) (w:World) (hv:ae w v 32 bs) (ht:ae w t n ts) :
 Calls Tryz.prog 24 #[v,t] w fun e w'=>∃ s,e = .returned (.tuple #[s,.int .i64 0])∧ae w' s 64 (zu bs n ts)∧Below w.heap.size w w':=by
 have cp:=xL v bs hbs w hv
 have c1:∀ g k W,ah .u8 W g 32 32 (tc bs)→32≤k→ae W t n ts→Calls Tryz.prog 49 #[.slice (some ⟨g,32,none⟩) 32 k,t,.slice none 0 0] W fun e w'=>∃ s,e = .returned s∧ae w' s 32 (bf (rN bs n ts))∧Below W.heap.size W w':=fun g k W hr hk ht=>by
  have h:=ms (.slice (some ⟨g,32,none⟩) 32 k) t (.slice none 0 0) 32 n 0 (tc bs) ts (fun _=>0) (yj bs) hts (fun _=>Nat.zero_lt_succ _) W (hJ hr (JW _) (by decide) hk) ht (G6 W) (by omega)
  have e:hL (32+n+0) (bu (32+n) (bu 32 (tc bs) ts) (fun _=>0))=rN bs n ts:=oM (n:=32+n) fun j hj=>d7 hj
  rw [e] at h;exact h
 have c2:∀ v W,ae W v 32 (bf (rN bs n ts))→Calls Tryz.prog 50 #[v] W fun e w'=>∃ g cap,e = .returned (.slice (some ⟨g,0,none⟩) 32 cap)∧32≤cap∧ah .u8 w' g 0 32 (RB bs n ts)∧Below W.heap.size W w':=fun v W hv=>by
  have h:=nT v (bf (rN bs n ts)) (dD _) W hv;rw [yg] at h;exact h
 have c3:∀ g c W,ah .u8 W g 0 32 (aB bs)→32≤c→Calls Tryz.prog 50 #[.slice (some ⟨g,0,none⟩) 32 c] W fun e w'=>∃ g cap,e = .returned (.slice (some ⟨g,0,none⟩) 32 cap)∧32≤cap∧ah .u8 w' g 0 32 (pR bs)∧Below W.heap.size W w':=fun g c W hr hc=>nT _ (aB bs) (ye bs) W (hJ hr (JW _) (by decide) hc)
 have c4:∀ g1 k1 g2 k2 W,ah .u8 W g1 0 32 (RB bs n ts)→32≤k1→ah .u8 W g2 0 32 (pR bs)→32≤k2→ae W t n ts→Calls Tryz.prog 49 #[.slice (some ⟨g1,0,none⟩) 32 k1,.slice (some ⟨g2,0,none⟩) 32 k2,t] W fun e w'=>∃ s,e = .returned s∧ae w' s 32 (bf (kN (RB bs n ts) (pR bs) n ts))∧Below W.heap.size W w':=fun g1 k1 g2 k2 W h1 hk1 h2 hk2 ht=>ms _ _ t 32 32 n (RB bs n ts) (pR bs) ts (eS _) (eS _) hts W (hJ h1 (JW _) (by decide) hk1) (hJ h2 (JW _) (by decide) hk2) ht (by omega)
 have c5:∀ u v g c W,ae W u 32 (bf (kN (RB bs n ts) (pR bs) n ts))→ah .u8 W g 0 32 (aB bs)→32≤c→ae W v 32 (bf (rN bs n ts))→Calls Tryz.prog 51 #[u,.slice (some ⟨g,0,none⟩) 32 c,v] W fun e w'=>∃ s,e = .returned (.tuple #[s,.int .i64 0])∧ae w' s 32 (bf (SN bs n ts))∧Below W.heap.size W w':=fun u v g c W hu hr hc hv=>by
  have h:=sF u (.slice (some ⟨g,0,none⟩) 32 c) v _ (aB bs) _ (dD _) (ye bs) (dD _) W hu (hJ hr (JW _) (by decide) hc) hv;rw [yQ,yg] at h;exact h
 have e9:bu 32 (RB bs n ts) (bf (SN bs n ts))=zu bs n ts:=rfl;obtain ⟨xv,cv,rfl,-,-,-⟩:=hv.src;obtain ⟨xt,ct,rfl,-,-,-⟩:=ht.src;clear hv;go_enter Tryz.func24,Tryz.ntmps24
 go_wp2_with (first
  | (go_at_call 48;refine cp.mono ?_;clear cp;rintro e w1 ⟨ga,ca,gh,kh,rfl,hca,hkh,hra,hrh,b⟩;(replace ht:=ht.still b);(have c11:=c1 gh kh w1 hrh hkh ht);clear c1 hrh)
  | (go_at_call 49;refine c11.mono ?_;clear c11;rintro e w2 ⟨s2,rfl,hs2,hb2⟩;(replace hra:=hra.stillB hb2);(replace ht:=ht.still hb2);(replace b:=aa b hb2);clear hb2;(have c22:=c2 s2 w2 hs2);clear c2)
  | (go_at_call 50;refine c22.mono ?_;clear c22;rintro e w3 ⟨g3,k3,rfl,hk3,hr3,hb3⟩;(replace hra:=hra.stillB hb3);(replace ht:=ht.still hb3);(replace hs2:=hs2.still hb3);(replace b:=aa b hb3);clear hb3;(have c33:=c3 ga ca w3 hra hca);clear c3)
  | (go_at_call 50;refine c33.mono ?_;clear c33;rintro e w4 ⟨g4,k4,rfl,hk4,hr4,hb4⟩;(replace hra:=hra.stillB hb4);(replace hr3:=hr3.stillB hb4);(replace ht:=ht.still hb4);(replace hs2:=hs2.still hb4);(replace b:=aa b hb4);clear hb4;(have c44:=c4 g3 k3 g4 k4 w4 hr3 hk3 hr4 hk4 ht);clear c4)
  | (go_at_call 49;refine c44.mono ?_;clear c44;rintro e w5 ⟨s5,rfl,hs5,hb5⟩;(replace hra:=hra.stillB hb5);(replace hr3:=hr3.stillB hb5);(replace hs2:=hs2.still hb5);(replace b:=aa b hb5);clear hb5 ht;(have c55:=c5 s5 s2 ga ca w5 hs5 hra hca hs2);clear c5)
  | (go_at_call 51;refine c55.mono ?_;clear c55;rintro e w6 ⟨s6,rfl,hs6,hb6⟩;(replace hr3:=hr3.stillB hb6);(replace b:=aa b hb6);clear hb6 hra hs2 hs5;(obtain ⟨x6,k6,rfl,hx6,-,src6⟩:=hs6.src);(have ba:Below w6.heap.size w6 (w6.alloc (.cells #[] 5)):=(Below.refl _ _).alloc (JW _) _);(have src0:nK (w6.alloc (.cells #[] 5)) (some ⟨g3,0,none⟩) 32 (RB bs n ts) := .inr ⟨g3,0,rfl,fun i hi=>((hr3.stillB ba) i hi).1⟩);clear ba)
  | (at_builtin;refine bn rfl (.tmp 36) (.tmp 37) rfl w6.heap.size (RB bs n ts) _ rfl rfl (some ⟨g3,0,none⟩) 32 k3 rfl src0 (fun h=>by cases h) (by decide) (JW _) ?_;intro v7 w7 own7 hb7;clear src0;(have src7:=src6 w7 hb7);clear src6)
  | (at_builtin;refine aR rfl (.tmp 38) (.tmp 39) rfl w6.heap.size v7 32 (RB bs n ts) rfl own7 x6 32 k6 (bf (SN bs n ts)) rfl src7 hx6 (by decide) hb7.size ?_;intro v8 w8 own8 grow8;(have hb8:Below w6.heap.size w6 w8:=bx.grown hb7 grow8 own7 (JW _) hb7.size);clear own7 src7 grow8 hb7))
 go_ret2;rw [e9] at own8;exact ⟨_,rfl,ae.of_own own8,aa b hb8⟩
end Go.Proofs.YtibdhadbflfdpaaGreatDoor
