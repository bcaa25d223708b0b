/- What the proof stands on: SgVer, SgHold, SgNum, SgKnow, SgHolds, PCel, PNumb, PCon, PAt. -/
import Derived.Test.YtdgkmloabificaaDoorHStartM
import Derived.Test.YtdgkmloabificaaDoorPtBM
import Derived.Test.YtdgkmloabificaaDoorSLoadM
import Derived.Lib.SlBytesConst
namespace Go.Proofs.YtdgkmloabificaaDoor
open Go.RowKit
theorem dec_no {G : World → Prop} {R : List Value → Fp × Fp → Prop} (api : PointApi G R) (v : Value) (bs : Nat → Nat) (w : World) (hbs : ∀ j, bs j < 256) (hv : BytesIn w v 32 bs) (hG : G w) (h : decN bs = none) :
 Calls Tryd.prog 17 #[v] w fun e w' => ∃ c : List Value, e = .returned (.tuple #[.agg c.toArray, .int .i64 30]) ∧ R c ezero ∧ Below w.heap.size w w' :=
 (api.dec v bs w hbs hv hG).mono fun e w' ⟨c, er, he, hb, hd⟩ => by
  rcases hd with ⟨rfl, hc, -⟩ | ⟨-, hs, -⟩
  · exact ⟨c, he, hc, hb⟩
  · rw [h] at hs; cases hs
theorem dec_yes {G : World → Prop} {R : List Value → Fp × Fp → Prop} (api : PointApi G R) (v : Value) (bs : Nat → Nat) (w : World) (hbs : ∀ j, bs j < 256) (hv : BytesIn w v 32 bs) (hG : G w) (h : decN bs ≠ none) :
 Calls Tryd.prog 17 #[v] w fun e w' => ∃ (c : List Value) (P : Fp × Fp), e = .returned (.tuple #[.agg c.toArray, .int .i64 0]) ∧ R c P ∧ (∀ j, j < 32 → encB P j = bs j) ∧ Below w.heap.size w w' :=
 (api.dec v bs w hbs hv hG).mono fun e w' ⟨c, er, he, hb, hd⟩ => by
  rcases hd with ⟨-, -, hn⟩ | ⟨rfl, -, P, hP, eP⟩
  · exact absurd hn h
  · exact ⟨c, P, he, hP, eP, hb⟩
set_option maxRecDepth 20000 in
set_option maxHeartbeats 4000000 in
theorem verify_arg (p t s : Value) (n q : Nat) (ps ss : Nat → Nat) (w : World) (hp : BytesIn w p n ps) (hs : BytesIn w s q ss) (h : ¬(n = 32 ∧ q = 64)) :
 Calls Tryd.prog 8 #[p, t, s] w fun e w' => e = .returned (.int .i64 1) ∧ w' = w := by
 obtain ⟨xp, cp, rfl, -, -, -⟩ := hp.src
 obtain ⟨xs, cs, rfl, -, -, -⟩ := hs.src
 clear hp hs
 by_cases h1 : n = 32
 · have h2 : ¬((q : Int) = 64) := by omega
   subst h1
   go_enter Tryd.func8, Tryd.ntmps8
   go_wp2
   go_ret
   exact ⟨rfl, rfl⟩
 · have h2 : ¬((n : Int) = 32) := by omega
   go_enter Tryd.func8, Tryd.ntmps8
   go_wp2
   go_ret
   exact ⟨rfl, rfl⟩
set_option maxRecDepth 20000 in
set_option maxHeartbeats 8000000 in
theorem verify_pub {G : World → Prop} {R : List Value → Fp × Fp → Prop} (cx : SgCtx G R) (p t s : Value) (n : Nat) (ps ts ss : Nat → Nat) (hps : ∀ j, ps j < 256) (w : World) (hp : BytesIn w p 32 ps) (ht : BytesIn w t n ts) (hs : BytesIn w s 64 ss) (hG : G w) (hd : decN ps = none) :
 Calls Tryd.prog 8 #[p, t, s] w fun e w' => e = .returned (.int .i64 (30)) ∧ Below w.heap.size w w' := by
 have hz := zeroP
 have kk := cx.api.keep
 have kl := cx.api.len
 have ko := cx.api.one
 have kon := cx.api.on
 rcases hs with ⟨_, _, h⟩ | ⟨sb, so, sc, rfl, hsl, hsc, hcell⟩
 · omega
 have hs1 : ∀ W, Below w.heap.size w W → BytesIn W (.slice (some ⟨sb, so, none⟩) 32 sc) 32 ss := fun W hW => .inr ⟨sb, so, sc, rfl, Nat.lt_of_lt_of_le hsl hW.size, by omega, fun j hj => (hW.cell (p := ⟨sb, so + j, none⟩) hsl).trans (hcell j (by omega))⟩
 have hs2 : ∀ W, Below w.heap.size w W → BytesIn W (.slice (some ⟨sb, so + 32, none⟩) 32 (sc - 32)) 32 (fun j => ss (32 + j)) := fun W hW => .inr ⟨sb, so + 32, sc - 32, rfl, Nat.lt_of_lt_of_le hsl hW.size, by omega, fun j hj => by
  have := (hW.cell (p := ⟨sb, so + (32 + j), none⟩) hsl).trans (hcell (32 + j) (by omega))
  rw [← Nat.add_assoc] at this
  exact this⟩
 have i1 : (64 : Int) ≤ (sc : Int) := by omega
 have i2 : (32 : Int) ≤ (sc : Int) := by omega
 have i3 : ¬(sc = 32) := by omega
 have i4 : ((sc : Int) - 32).toNat = sc - 32 := by omega
 have i5 : sc - 0 = sc := rfl
 obtain ⟨xp, cp, rfl, hpn, hpc, hpsrc⟩ := hp.src
 obtain ⟨xt, ct, rfl, htn, htc, htsrc⟩ := ht.src
 clear hpsrc htsrc hcell
 have cd := dec_no cx.api (.slice xp 32 cp) ps w hps hp hG hd
 go_enter Tryd.func8, Tryd.ntmps8
 go_wp2_with (first
  | (go_at_call 17; refine cd.mono ?_; clear cd; rintro e w1 ⟨c1, rfl, hc1, b⟩; (have l1 := kl _ _ hc1); (have o1 := ko _ _ hc1); (obtain ⟨V1, hV1, h1, b1, t1⟩ := boxP w1 c1 l1); (have H1 := Hid.mk' hV1); clear hV1; (replace b := below_next b b1); clear b1)
  | (with_reducible (refine id (?_ : wpList _ _ _ _ _ _)); refine wpList_store_mid rfl 45 _ _ rfl w1.heap.size 0 c1.toArray rfl rfl t1 (infoPA l1) o1 ?_; rw [List.toList_toArray, ← H1.out]; clear t1 H1))
 go_ret
 exact ⟨rfl, b⟩
set_option maxRecDepth 20000 in
set_option maxHeartbeats 8000000 in
theorem verify_sig1 {G : World → Prop} {R : List Value → Fp × Fp → Prop} (cx : SgCtx G R) (p t s : Value) (n : Nat) (ps ts ss : Nat → Nat) (hps : ∀ j, ps j < 256) (hss : ∀ j, ss j < 256) (w : World) (hp : BytesIn w p 32 ps) (ht : BytesIn w t n ts) (hs : BytesIn w s 64 ss) (hG : G w) (hd : decN ps ≠ none) (hd2 : decN ss = none) :
 Calls Tryd.prog 8 #[p, t, s] w fun e w' => e = .returned (.int .i64 (31)) ∧ Below w.heap.size w w' := by
 have hz := zeroP
 have kk := cx.api.keep
 have kl := cx.api.len
 have ko := cx.api.one
 have kon := cx.api.on
 rcases hs with ⟨_, _, h⟩ | ⟨sb, so, sc, rfl, hsl, hsc, hcell⟩
 · omega
 have hs1 : ∀ W, Below w.heap.size w W → BytesIn W (.slice (some ⟨sb, so, none⟩) 32 sc) 32 ss := fun W hW => .inr ⟨sb, so, sc, rfl, Nat.lt_of_lt_of_le hsl hW.size, by omega, fun j hj => (hW.cell (p := ⟨sb, so + j, none⟩) hsl).trans (hcell j (by omega))⟩
 have hs2 : ∀ W, Below w.heap.size w W → BytesIn W (.slice (some ⟨sb, so + 32, none⟩) 32 (sc - 32)) 32 (fun j => ss (32 + j)) := fun W hW => .inr ⟨sb, so + 32, sc - 32, rfl, Nat.lt_of_lt_of_le hsl hW.size, by omega, fun j hj => by
  have := (hW.cell (p := ⟨sb, so + (32 + j), none⟩) hsl).trans (hcell (32 + j) (by omega))
  rw [← Nat.add_assoc] at this
  exact this⟩
 have i1 : (64 : Int) ≤ (sc : Int) := by omega
 have i2 : (32 : Int) ≤ (sc : Int) := by omega
 have i3 : ¬(sc = 32) := by omega
 have i4 : ((sc : Int) - 32).toNat = sc - 32 := by omega
 have i5 : sc - 0 = sc := rfl
 obtain ⟨xp, cp, rfl, hpn, hpc, hpsrc⟩ := hp.src
 obtain ⟨xt, ct, rfl, htn, htc, htsrc⟩ := ht.src
 clear hpsrc htsrc hcell
 have cd := dec_yes cx.api (.slice xp 32 cp) ps w hps hp hG hd
 go_enter Tryd.func8, Tryd.ntmps8
 go_upto_region 6 with (first
  | (go_at_call 17; refine cd.mono ?_; clear cd; rintro e w1 ⟨c1, P1, rfl, hc1, e1, b⟩; (have l1 := kl _ _ hc1); (have o1 := ko _ _ hc1); (obtain ⟨V1, hV1, h1, b1, t1⟩ := boxP w1 c1 l1); (have H1 := Hid.mk' hV1); clear hV1; (replace b := below_next b b1); clear b1)
  | (with_reducible (refine id (?_ : wpList _ _ _ _ _ _)); refine wpList_store_mid rfl 45 _ _ rfl w1.heap.size 0 c1.toArray rfl rfl t1 (infoPA l1) o1 ?_; rw [List.toList_toArray, ← H1.out]; clear t1 H1))
 (try dsimp only [Act.put])
 generalize hg1 : w1.heap.size = g1 at *
 clear hg1
 replace h1 := h1.drew
 replace b := below_next b ((Below.refl V1.heap.size V1).drew)
 refine wp_region_noPanic ?_
 refine wp_region_held_drew (S := fun w' => Below V1.drew.heap.size V1.drew w') (by kernel_rfl) (Below.refl _ _) (fun hS => ?_)
 generalize V1.drew = V at *
 refine tkH 0 (oN 28 (Op.move (oT 2)) 22 "sign.go:48" #[]) ?va0 hS (Or.inl ⟨by rfl, ?ha0⟩) ?ra0
 case ha0 =>
  intro u hu
  go_simp
  try with_reducible rfl
 (try simp only [pS])
 refine tkH 1 (oN 29 (Op.slice 22 (oT 28) none (some (Operand.const (Value.int IntKind.i64 32))) none) 22 "sign.go:48" #[jD 0]) (.slice (some ⟨sb, so, none⟩) 32 sc) hS (Or.inl ⟨by rfl, ?ha1⟩) ?ra1
 case ha1 =>
  intro u hu
  go_simp
  try with_reducible rfl
 (try simp only [pS])
 refine tkH 2 (oN 30 (Op.move (oT 2)) 22 "sign.go:48" #[]) ?va2 hS (Or.inl ⟨by rfl, ?ha2⟩) ?ra2
 case ha2 =>
  intro u hu
  go_simp
  try with_reducible rfl
 (try simp only [pS])
 refine tkH 3 (oN 31 (Op.slice 22 (oT 30) (some (Operand.const (Value.int IntKind.i64 32))) none none) 22 "sign.go:48" #[jD 2]) (.slice (some ⟨sb, so + 32, none⟩) 32 (sc - 32)) hS (Or.inl ⟨by rfl, ?ha3⟩) ?ra3
 case ha3 =>
  intro u hu
  go_simp
  try with_reducible rfl
 (try simp only [pS])
 refine tkH 4 (oN 9 (Op.assign (oT 29)) 22 "sign.go:48" #[jD 1, jP 0, jP 1, jT 2, jU 3]) ?va4 hS (Or.inl ⟨by rfl, ?ha4⟩) ?ra4
 case ha4 =>
  intro u hu
  go_simp
  try with_reducible rfl
 (try simp only [pS])
 refine tkH 5 (oN 10 (Op.assign (oT 31)) 22 "sign.go:48" #[jD 3, jC 4, jP 0, jP 1, jP 2, jP 3, jP 4]) ?va5 hS (Or.inl ⟨by rfl, ?ha5⟩) ?ra5
 case ha5 =>
  intro u hu
  go_simp
  try with_reducible rfl
 (try simp only [pS])
 refine wpAnyH_done (by kernel_rfl) ?_ _
 refine NoPanic.normal ?_
 clear hS
 have cd2 := dec_no cx.api _ ss V hss (hs1 V b) (kk _ _ hG b) hd2
 go_wp2_with (first
  | (go_at_call 17; refine cd2.mono ?_; clear cd2; rintro e w2 ⟨c2, rfl, hc2, hb2⟩; (have l2 := kl _ _ hc2); (have o2 := ko _ _ hc2); (obtain ⟨V2, hV2, h2, b2, t2⟩ := boxP w2 c2 l2); (have H2 := Hid.mk' hV2); clear hV2; (replace b := below_next (below_next b hb2) b2); clear b2 hb2)
  | (with_reducible (refine id (?_ : wpList _ _ _ _ _ _)); refine wpList_store_mid rfl 45 _ _ rfl w2.heap.size 0 c2.toArray rfl rfl t2 (infoPA l2) o2 ?_; rw [List.toList_toArray, ← H2.out]; clear t2 H2))
 go_ret
 exact ⟨rfl, b⟩
set_option maxRecDepth 20000 in
set_option maxHeartbeats 8000000 in
theorem verify_sig2 {G : World → Prop} {R : List Value → Fp × Fp → Prop} (cx : SgCtx G R) (p t s : Value) (n : Nat) (ps ts ss : Nat → Nat) (hps : ∀ j, ps j < 256) (hss : ∀ j, ss j < 256) (w : World) (hp : BytesIn w p 32 ps) (ht : BytesIn w t n ts) (hs : BytesIn w s 64 ss) (hG : G w) (hd : decN ps ≠ none) (hd2 : decN ss ≠ none) (hl : ¬sOf ss < oL) :
 Calls Tryd.prog 8 #[p, t, s] w fun e w' => e = .returned (.int .i64 (31)) ∧ Below w.heap.size w w' := by
 have hz := zeroP
 have kk := cx.api.keep
 have kl := cx.api.len
 have ko := cx.api.one
 have kon := cx.api.on
 have hca : canonB (fun j => ss (32 + j)) = false := decide_eq_false hl
 rcases hs with ⟨_, _, h⟩ | ⟨sb, so, sc, rfl, hsl, hsc, hcell⟩
 · omega
 have hs1 : ∀ W, Below w.heap.size w W → BytesIn W (.slice (some ⟨sb, so, none⟩) 32 sc) 32 ss := fun W hW => .inr ⟨sb, so, sc, rfl, Nat.lt_of_lt_of_le hsl hW.size, by omega, fun j hj => (hW.cell (p := ⟨sb, so + j, none⟩) hsl).trans (hcell j (by omega))⟩
 have hs2 : ∀ W, Below w.heap.size w W → BytesIn W (.slice (some ⟨sb, so + 32, none⟩) 32 (sc - 32)) 32 (fun j => ss (32 + j)) := fun W hW => .inr ⟨sb, so + 32, sc - 32, rfl, Nat.lt_of_lt_of_le hsl hW.size, by omega, fun j hj => by
  have := (hW.cell (p := ⟨sb, so + (32 + j), none⟩) hsl).trans (hcell (32 + j) (by omega))
  rw [← Nat.add_assoc] at this
  exact this⟩
 have i1 : (64 : Int) ≤ (sc : Int) := by omega
 have i2 : (32 : Int) ≤ (sc : Int) := by omega
 have i3 : ¬(sc = 32) := by omega
 have i4 : ((sc : Int) - 32).toNat = sc - 32 := by omega
 have i5 : sc - 0 = sc := rfl
 obtain ⟨xp, cp, rfl, hpn, hpc, hpsrc⟩ := hp.src
 obtain ⟨xt, ct, rfl, htn, htc, htsrc⟩ := ht.src
 clear hpsrc htsrc hcell
 have cd := dec_yes cx.api (.slice xp 32 cp) ps w hps hp hG hd
 go_enter Tryd.func8, Tryd.ntmps8
 go_upto_region 6 with (first
  | (go_at_call 17; refine cd.mono ?_; clear cd; rintro e w1 ⟨c1, P1, rfl, hc1, e1, b⟩; (have l1 := kl _ _ hc1); (have o1 := ko _ _ hc1); (obtain ⟨V1, hV1, h1, b1, t1⟩ := boxP w1 c1 l1); (have H1 := Hid.mk' hV1); clear hV1; (replace b := below_next b b1); clear b1)
  | (with_reducible (refine id (?_ : wpList _ _ _ _ _ _)); refine wpList_store_mid rfl 45 _ _ rfl w1.heap.size 0 c1.toArray rfl rfl t1 (infoPA l1) o1 ?_; rw [List.toList_toArray, ← H1.out]; clear t1 H1))
 (try dsimp only [Act.put])
 generalize hg1 : w1.heap.size = g1 at *
 clear hg1
 replace h1 := h1.drew
 replace b := below_next b ((Below.refl V1.heap.size V1).drew)
 refine wp_region_noPanic ?_
 refine wp_region_held_drew (S := fun w' => Below V1.drew.heap.size V1.drew w') (by kernel_rfl) (Below.refl _ _) (fun hS => ?_)
 generalize V1.drew = V at *
 refine tkH 0 (oN 28 (Op.move (oT 2)) 22 "sign.go:48" #[]) ?va0 hS (Or.inl ⟨by rfl, ?ha0⟩) ?ra0
 case ha0 =>
  intro u hu
  go_simp
  try with_reducible rfl
 (try simp only [pS])
 refine tkH 1 (oN 29 (Op.slice 22 (oT 28) none (some (Operand.const (Value.int IntKind.i64 32))) none) 22 "sign.go:48" #[jD 0]) (.slice (some ⟨sb, so, none⟩) 32 sc) hS (Or.inl ⟨by rfl, ?ha1⟩) ?ra1
 case ha1 =>
  intro u hu
  go_simp
  try with_reducible rfl
 (try simp only [pS])
 refine tkH 2 (oN 30 (Op.move (oT 2)) 22 "sign.go:48" #[]) ?va2 hS (Or.inl ⟨by rfl, ?ha2⟩) ?ra2
 case ha2 =>
  intro u hu
  go_simp
  try with_reducible rfl
 (try simp only [pS])
 refine tkH 3 (oN 31 (Op.slice 22 (oT 30) (some (Operand.const (Value.int IntKind.i64 32))) none none) 22 "sign.go:48" #[jD 2]) (.slice (some ⟨sb, so + 32, none⟩) 32 (sc - 32)) hS (Or.inl ⟨by rfl, ?ha3⟩) ?ra3
 case ha3 =>
  intro u hu
  go_simp
  try with_reducible rfl
 (try simp only [pS])
 refine tkH 4 (oN 9 (Op.assign (oT 29)) 22 "sign.go:48" #[jD 1, jP 0, jP 1, jT 2, jU 3]) ?va4 hS (Or.inl ⟨by rfl, ?ha4⟩) ?ra4
 case ha4 =>
  intro u hu
  go_simp
  try with_reducible rfl
 (try simp only [pS])
 refine tkH 5 (oN 10 (Op.assign (oT 31)) 22 "sign.go:48" #[jD 3, jC 4, jP 0, jP 1, jP 2, jP 3, jP 4]) ?va5 hS (Or.inl ⟨by rfl, ?ha5⟩) ?ra5
 case ha5 =>
  intro u hu
  go_simp
  try with_reducible rfl
 (try simp only [pS])
 refine wpAnyH_done (by kernel_rfl) ?_ _
 refine NoPanic.normal ?_
 clear hS
 have cd2 := dec_yes cx.api _ ss V hss (hs1 V b) (kk _ _ hG b) hd2
 go_wp2_with (first
  | (go_at_call 17; refine cd2.mono ?_; clear cd2; rintro e w2 ⟨c2, P2, rfl, hc2, e2, hb2⟩; (have l2 := kl _ _ hc2); (have o2 := ko _ _ hc2); (obtain ⟨V2, hV2, h2, b2, t2⟩ := boxP w2 c2 l2); (have H2 := Hid.mk' hV2); clear hV2; (replace h1 := (h1.still hb2).still b2); (replace b := below_next (below_next b hb2) b2); clear b2 hb2; (have cc := canonical_good _ (fun j => ss (32 + j)) (fun j => hss _) V2 (cx.ord _ (kk _ _ hG b)) (hs2 V2 b)); rw [hca] at cc)
  | (with_reducible (refine id (?_ : wpList _ _ _ _ _ _)); refine wpList_store_mid rfl 45 _ _ rfl w2.heap.size 0 c2.toArray rfl rfl t2 (infoPA l2) o2 ?_; rw [List.toList_toArray, ← H2.out]; clear t2 H2)
  | (go_at_call 18; refine cc.mono ?_; clear cc; rintro e w3 ⟨rfl, hb3⟩; (replace h1 := h1.still hb3); (replace h2 := h2.still hb3); (replace b := below_next b hb3); clear hb3))
 go_ret
 exact ⟨rfl, b⟩
set_option maxRecDepth 20000 in
set_option maxHeartbeats 8000000 in
theorem verify_main {G : World → Prop} {R : List Value → Fp × Fp → Prop} (cx : SgCtx G R) (p t s : Value) (n : Nat) (ps ts ss : Nat → Nat) (hps : ∀ j, ps j < 256) (hts : ∀ j, ts j < 256) (hss : ∀ j, ss j < 256) (hn : n < 1152921504606846976) (w : World) (hp : BytesIn w p 32 ps) (ht : BytesIn w t n ts) (hs : BytesIn w s 64 ss) (hG : G w) (hd : decN ps ≠ none) (hd2 : decN ss ≠ none) (hl : sOf ss < oL) :
 Calls Tryd.prog 8 #[p, t, s] w fun e w' => e = .returned (.int .i64 (verE 32 ps n ts 64 ss)) ∧ Below w.heap.size w w' := by
 have hz := zeroP
 have kk := cx.api.keep
 have kl := cx.api.len
 have ko := cx.api.one
 have kon := cx.api.on
 have hca : canonB (fun j => ss (32 + j)) = true := decide_eq_true hl
 have hver := fun P Q hP hQ eP eQ => verE_pts (m := n) (t := ts) hd hd2 hl (P := P) (Q := Q) hP hQ eP eQ
 generalize hres : verE 32 ps n ts 64 ss = res at *
 rcases hs with ⟨_, _, h⟩ | ⟨sb, so, sc, rfl, hsl, hsc, hcell⟩
 · omega
 have hs1 : ∀ W, Below w.heap.size w W → BytesIn W (.slice (some ⟨sb, so, none⟩) 32 sc) 32 ss := fun W hW => .inr ⟨sb, so, sc, rfl, Nat.lt_of_lt_of_le hsl hW.size, by omega, fun j hj => (hW.cell (p := ⟨sb, so + j, none⟩) hsl).trans (hcell j (by omega))⟩
 have hs2 : ∀ W, Below w.heap.size w W → BytesIn W (.slice (some ⟨sb, so + 32, none⟩) 32 (sc - 32)) 32 (fun j => ss (32 + j)) := fun W hW => .inr ⟨sb, so + 32, sc - 32, rfl, Nat.lt_of_lt_of_le hsl hW.size, by omega, fun j hj => by
  have := (hW.cell (p := ⟨sb, so + (32 + j), none⟩) hsl).trans (hcell (32 + j) (by omega))
  rw [← Nat.add_assoc] at this
  exact this⟩
 have i1 : (64 : Int) ≤ (sc : Int) := by omega
 have i2 : (32 : Int) ≤ (sc : Int) := by omega
 have i3 : ¬(sc = 32) := by omega
 have i4 : ((sc : Int) - 32).toNat = sc - 32 := by omega
 have i5 : sc - 0 = sc := rfl
 obtain ⟨xp, cp, rfl, hpn, hpc, hpsrc⟩ := hp.src
 obtain ⟨xt, ct, rfl, htn, htc, htsrc⟩ := ht.src
 clear hpsrc htsrc hcell
 have cd := dec_yes cx.api (.slice xp 32 cp) ps w hps hp hG hd
 go_enter Tryd.func8, Tryd.ntmps8
 go_upto_region 6 with (first
  | (go_at_call 17; refine cd.mono ?_; clear cd; rintro e w1 ⟨c1, P1, rfl, hc1, e1, b⟩; (have l1 := kl _ _ hc1); (have o1 := ko _ _ hc1); (obtain ⟨V1, hV1, h1, b1, t1⟩ := boxP w1 c1 l1); (have H1 := Hid.mk' hV1); clear hV1; (replace b := below_next b b1); clear b1)
  | (with_reducible (refine id (?_ : wpList _ _ _ _ _ _)); refine wpList_store_mid rfl 45 _ _ rfl w1.heap.size 0 c1.toArray rfl rfl t1 (infoPA l1) o1 ?_; rw [List.toList_toArray, ← H1.out]; clear t1 H1))
 (try dsimp only [Act.put])
 generalize hg1 : w1.heap.size = g1 at *
 clear hg1
 replace h1 := h1.drew
 replace b := below_next b ((Below.refl V1.heap.size V1).drew)
 refine wp_region_noPanic ?_
 refine wp_region_held_drew (S := fun w' => Below V1.drew.heap.size V1.drew w') (by kernel_rfl) (Below.refl _ _) (fun hS => ?_)
 generalize V1.drew = V at *
 refine tkH 0 (oN 28 (Op.move (oT 2)) 22 "sign.go:48" #[]) ?va0 hS (Or.inl ⟨by rfl, ?ha0⟩) ?ra0
 case ha0 =>
  intro u hu
  go_simp
  try with_reducible rfl
 (try simp only [pS])
 refine tkH 1 (oN 29 (Op.slice 22 (oT 28) none (some (Operand.const (Value.int IntKind.i64 32))) none) 22 "sign.go:48" #[jD 0]) (.slice (some ⟨sb, so, none⟩) 32 sc) hS (Or.inl ⟨by rfl, ?ha1⟩) ?ra1
 case ha1 =>
  intro u hu
  go_simp
  try with_reducible rfl
 (try simp only [pS])
 refine tkH 2 (oN 30 (Op.move (oT 2)) 22 "sign.go:48" #[]) ?va2 hS (Or.inl ⟨by rfl, ?ha2⟩) ?ra2
 case ha2 =>
  intro u hu
  go_simp
  try with_reducible rfl
 (try simp only [pS])
 refine tkH 3 (oN 31 (Op.slice 22 (oT 30) (some (Operand.const (Value.int IntKind.i64 32))) none none) 22 "sign.go:48" #[jD 2]) (.slice (some ⟨sb, so + 32, none⟩) 32 (sc - 32)) hS (Or.inl ⟨by rfl, ?ha3⟩) ?ra3
 case ha3 =>
  intro u hu
  go_simp
  try with_reducible rfl
 (try simp only [pS])
 refine tkH 4 (oN 9 (Op.assign (oT 29)) 22 "sign.go:48" #[jD 1, jP 0, jP 1, jT 2, jU 3]) ?va4 hS (Or.inl ⟨by rfl, ?ha4⟩) ?ra4
 case ha4 =>
  intro u hu
  go_simp
  try with_reducible rfl
 (try simp only [pS])
 refine tkH 5 (oN 10 (Op.assign (oT 31)) 22 "sign.go:48" #[jD 3, jC 4, jP 0, jP 1, jP 2, jP 3, jP 4]) ?va5 hS (Or.inl ⟨by rfl, ?ha5⟩) ?ra5
 case ha5 =>
  intro u hu
  go_simp
  try with_reducible rfl
 (try simp only [pS])
 refine wpAnyH_done (by kernel_rfl) ?_ _
 refine NoPanic.normal ?_
 clear hS
 have cd2 := dec_yes cx.api _ ss V hss (hs1 V b) (kk _ _ hG b) hd2
 go_upto_region 11 with (first
  | (go_at_call 17; refine cd2.mono ?_; clear cd2; rintro e w2 ⟨c2, P2, rfl, hc2, e2, hb2⟩; (have l2 := kl _ _ hc2); (have o2 := ko _ _ hc2); (obtain ⟨V2, hV2, h2, b2, t2⟩ := boxP w2 c2 l2); (have H2 := Hid.mk' hV2); clear hV2; (replace h1 := (h1.still hb2).still b2); (replace b := below_next (below_next b hb2) b2); clear b2 hb2; (have cc := canonical_good _ (fun j => ss (32 + j)) (fun j => hss _) V2 (cx.ord _ (kk _ _ hG b)) (hs2 V2 b)); rw [hca] at cc)
  | (with_reducible (refine id (?_ : wpList _ _ _ _ _ _)); refine wpList_store_mid rfl 45 _ _ rfl w2.heap.size 0 c2.toArray rfl rfl t2 (infoPA l2) o2 ?_; rw [List.toList_toArray, ← H2.out]; clear t2 H2)
  | (go_at_call 18; refine cc.mono ?_; clear cc; rintro e w3 ⟨rfl, hb3⟩; (replace h1 := h1.still hb3); (replace h2 := h2.still hb3); (replace b := below_next b hb3); clear hb3)
  | (go_at_call 11; refine (hashed3 cx hss hps hts w3 (hs1 w3 b) (hp.still b) (ht.still b) (kk _ _ hG b) (by omega)).mono ?_; rintro e w4 ⟨g4, rfl, hg4, hr4, hb4⟩; (replace h1 := h1.still hb4); (replace h2 := h2.still hb4); (replace b := below_next b hb4); clear hb4 hg4))
 (try dsimp only [Act.put])
 generalize hg2 : w2.heap.size = g2 at *
 clear hg2
 replace h1 := h1.drew
 replace h2 := h2.drew
 replace hr4 := hr4.drew
 replace b := below_next b ((Below.refl w4.heap.size w4).drew)
 have hG4 := kk _ _ hG b
 refine wp_region_noPanic ?_
 refine wp_region_held_drew (S := fun w' => Below w4.drew.heap.size w4.drew w') (by kernel_rfl) (Below.refl _ _) (fun hS => ?_)
 generalize w4.drew = U at *
 refine tkH 1 (oN 50 (Op.move (oT 10)) 22 "sign.go:54" #[]) ?vb1 hS (Or.inl ⟨by rfl, ?hb1⟩) ?rb1
 case hb1 =>
  intro u hu
  go_simp
  try with_reducible rfl
 (try simp only [pS])
 refine tkH 3 (oN 52 (Op.load 45 (oT 11)) 45 "sign.go:54" #[]) (.agg c2.toArray) hS (ldH h2 45 11 Tryd.underlying45 (infoP l2)) ?_
 (try simp only [pS])
 refine tkH 4 (oN 53 (Op.load 45 (oT 7)) 45 "sign.go:54" #[]) (.agg c1.toArray) hS (ldH h1 45 7 Tryd.underlying45 (infoP l1)) ?_
 (try simp only [pS])
 refine tkH 5 (oN 54 (Op.move (oT 12)) 22 "sign.go:54" #[]) ?vb5 hS (Or.inl ⟨by rfl, ?hb5⟩) ?rb5
 case hb5 =>
  intro u hu
  go_simp
  try with_reducible rfl
 (try simp only [pS])
 refine callH 0 (oN 49 (cF1 13 #[] #[]) 45 "sign.go:54" #[]) (cx.api.base U hG4) ?_
 rintro e w5 ⟨c5, rfl, hc5, hb5⟩
 replace hS := below_next hS hb5
 replace hr4 := hr4.stillB hb5
 replace hG4 := kk _ _ hG4 hb5
 clear hb5
 refine ⟨_, rfl, hS, ?_⟩
 (try simp only [pS])
 refine callH 2 (oN 51 (cF1 12 #[oT 49, oT 50] #[45, 22]) 45 "sign.go:54" #[jD 0, jD 1, jC 0]) (times_sg cx.api c5 _ hc5 _ _ (fun j => hss _) w5 (hs2 w5 (b.trans (hS.mono b.size))) hG4) ?_
 rintro e w6 ⟨c6, rfl, hc6, hb6⟩
 replace hS := below_next hS hb6
 replace hr4 := hr4.stillB hb6
 replace hG4 := kk _ _ hG4 hb6
 clear hb6 hc5
 refine ⟨_, rfl, hS, ?_⟩
 (try simp only [pS])
 refine callH 6 (oN 55 (cF1 12 #[oT 53, oT 54] #[45, 22]) 45 "sign.go:54" #[jD 4, jD 5, jC 2]) (times_sg cx.api c1 _ hc1 (.slice (some ⟨g4, 0, none⟩) 32 32) _ (byt_lt _) w6 (rowB hr4 (Nat.le_refl _) (by decide) (by decide)) hG4) ?_
 rintro e w7 ⟨c7, rfl, hc7, hb7⟩
 replace hS := below_next hS hb7
 replace hG4 := kk _ _ hG4 hb7
 clear hb7
 refine ⟨_, rfl, hS, ?_⟩
 (try simp only [pS])
 refine callH 7 (oN 56 (cF1 20 #[oT 52, oT 55] #[45, 45]) 45 "sign.go:54" #[jD 3, jD 6, jC 6]) (cx.api.plus c2 _ c7 _ w7 hc2 hc7 hG4) ?_
 rintro e w8 ⟨c8, rfl, hc8, hb8⟩
 replace hS := below_next hS hb8
 replace hG4 := kk _ _ hG4 hb8
 clear hb8
 refine ⟨_, rfl, hS, ?_⟩
 (try simp only [pS])
 have ez : (emul dE (ofB (fun j => ss (32 + j)) 32) baseP = eadd dE P2 (emul dE (ofB (byt (hL (32 + 32 + n) (cat (32 + 32) (cat 32 ss ps) ts))) 32) P1)) = (bP (sOf ss) = eadd dE P2 (emul dE (kN ss ps n ts) P1)) := by
  show (bP (sOf ss) = eadd dE P2 (emul dE (ofB (byt (kN ss ps n ts)) 32) P1)) = _
  rw [kN_of]
 obtain ⟨z, hz', c9⟩ : ∃ z : Bool, (z = true ↔ bP (sOf ss) = eadd dE P2 (emul dE (kN ss ps n ts) P1)) ∧ Calls Tryd.prog 19 #[.agg c6.toArray, .agg c8.toArray] w8 fun e w' => e = .returned (.bool z) ∧ Below w8.heap.size w8 w' := ⟨_, decide_eq_true_iff.trans (iff_of_eq ez), cx.api.same c6 _ c8 _ w8 hc6 hc8 hG4⟩
 clear ez
 refine callH 8 (oN 57 (cF1 19 #[oT 51, oT 56] #[45, 45]) 4 "sign.go:54" #[jD 2, jD 7, jC 7]) (c9) ?_
 rintro e w9 ⟨rfl, hb9⟩
 replace hS := below_next hS hb9
 clear hb9
 refine ⟨_, rfl, hS, ?_⟩
 (try simp only [pS])
 refine tkH 9 (oN 58 (Op.unOp UnOp.not 4 (oT 57)) 4 "sign.go:54" #[jD 8]) ?vb9 hS (Or.inl ⟨by rfl, ?hb9⟩) ?rb9
 case hb9 =>
  intro u hu
  go_simp
  try with_reducible rfl
 (try simp only [pS])
 refine wpAnyH_done (by kernel_rfl) ?_ _
 refine NoPanic.normal ?_
 have fin := b.trans (hS.mono b.size)
 clear hc6 hc7 hc8 hS h1 h2 hr4
 have hv := hver P1 P2 (kon _ _ hc1) (kon _ _ hc2) e1 e2
 cases z
 · rw [if_neg (fun h => Bool.noConfusion (hz'.2 h))] at hv
   subst hv
   go_wp2
   go_ret
   exact ⟨rfl, fin⟩
 · rw [if_pos (hz'.1 rfl)] at hv
   subst hv
   go_wp2
   go_ret
   exact ⟨rfl, fin⟩
theorem verify_any {G : World → Prop} {R : List Value → Fp × Fp → Prop} (cx : SgCtx G R) (p t s : Value) (np n q : Nat) (ps ts ss : Nat → Nat) (hps : ∀ j, ps j < 256) (hts : ∀ j, ts j < 256) (hss : ∀ j, ss j < 256) (hn : n < 1152921504606846976) (w : World) (hp : BytesIn w p np ps) (ht : BytesIn w t n ts) (hs : BytesIn w s q ss) (hG : G w) :
 Calls Tryd.prog 8 #[p, t, s] w fun e w' => e = .returned (.int .i64 (verE np ps n ts q ss)) ∧ Below w.heap.size w w' := by
 by_cases h : np = 32 ∧ q = 64
 · obtain ⟨rfl, rfl⟩ := h
   by_cases hd : decN ps = none
   · rw [verE_pub hd]
     exact verify_pub cx p t s n ps ts ss hps w hp ht hs hG hd
   · by_cases hd2 : decN ss = none
     · rw [verE_sig hd (.inl hd2)]
       exact verify_sig1 cx p t s n ps ts ss hps hss w hp ht hs hG hd hd2
     · by_cases hl : sOf ss < oL
       · exact verify_main cx p t s n ps ts ss hps hts hss hn w hp ht hs hG hd hd2 hl
       · rw [verE_sig hd (.inr hl)]
         exact verify_sig2 cx p t s n ps ts ss hps hss w hp ht hs hG hd hd2 hl
 · rw [verE_arg h]
   exact (verify_arg p t s np q ps ss w hp hs h).mono fun e w' ⟨he, hw⟩ => ⟨he, by rw [hw]; exact Below.refl _ _⟩
end Go.Proofs.YtdgkmloabificaaDoor
namespace Go.Proofs.YtdgkmloabificaaDoor
section
variable {n : Nat} [NeZero n]
theorem on_x {i p y D d : Fin n} (hi : i*i = 0-1) (hd : d = 0 - D) (h : p^2 + y^2 = 1 + D*p^2*y^2) : ((0-1)*i*p)*((0-1)*i*p)*(d*(y*y) + 1) = y*y - 1 := by grind
theorem on_v {y D d : Fin n} (hd : d = 0 - D) (h : d*(y*y) + 1 = 0) : 1 - D*y*y = 0 := by grind
theorem quo_x {a u v i : Fin n} (h : a*v = u) (hv : v*i = 1) : u*i = a := by grind
end
theorem val_self (a : Fp) : cF a.val = a := Fin.ext (Nat.mod_eq_of_lt a.isLt)
/-- The bytes of a point tell a point. -/
theorem dec_enc {P : Fp × Fp} {bs : Nat → Nat} (hP : On dE P) (h : ∀ j, j < 32 → encB P j = bs j) : decN bs ≠ none := by
 obtain ⟨y, hy⟩ : ∃ y, y = P.2.val := ⟨_, rfl⟩
 obtain ⟨x, hx⟩ : ∃ x, x = (xOf P).val := ⟨_, rfl⟩
 have yl : y < pF := by rw [hy]; exact P.2.isLt
 have xl : x < pF := by rw [hx]; exact (xOf P).isLt
 have y31 : byt y 31 < 128 := by
  unfold byt
  have e : (256 : Nat) ^ 31 = 452312848583266388373324160190187140051835877600158453279131187530910662656 := by decide
  have e2 : pF < 452312848583266388373324160190187140051835877600158453279131187530910662656 * 128 := by decide
  rw [e]
  have := Nat.div_lt_of_lt_mul (Nat.lt_trans yl e2)
  exact Nat.lt_of_le_of_lt (Nat.mod_le _ _) this
 have b31 : bs 31 = byt y 31 + 128 * (x % 2) := by rw [← h 31 (by decide), hx, hy]; rfl
 have lo : ofB (lo6 bs) 32 = y := by
  have e : ofB (lo6 bs) 32 = ofB (byt y) 32 := ofB_congr 32 fun j hj => by
   unfold lo6
   by_cases e : j = 31
   · subst e; rw [if_pos rfl, b31]; omega
   · rw [if_neg e, ← h j hj, hy]; unfold encB; rw [if_neg e]
  rw [e, ofB_byt]
  exact Nat.mod_eq_of_lt (Nat.lt_trans yl (by decide))
 have cx : cF x = xOf P := by rw [hx]; exact val_self _
 have cy : cF y = P.2 := by rw [hy]; exact val_self _
 have ul : decU y < pF := fsub_lt _ _
 have vl : decV y < pF := Nat.mod_lt _ pF_pos
 have cu : cF (decU y) = P.2*P.2 - 1 := by unfold decU; rw [cF_sub _ _ (by decide), cF_mul, cy, cF_one]
 have cv : cF (decV y) = cF dN*(P.2*P.2) + 1 := by unfold decV; rw [cF_add, cF_mul, cF_mul, cy, cF_one]
 have rel : xOf P * xOf P * cF (decV y) = cF (decU y) := by rw [cu, cv]; exact on_x iI_sq dN_eq hP
 have v0 : cF (decV y) ≠ 0 := fun e => by
  rw [cv] at e
  exact ns_one ns_dE (on_v dN_eq e)
 have v1 : decV y ≠ 0 := fun e => v0 (by rw [e]; exact cF_zero)
 have hq : quoR (decU y) (decV y) = x * x % pF := by
  refine cF_inj (Nat.mod_lt _ pF_pos) (Nat.mod_lt _ pF_pos) ?_
  have e1 : cF (quoR (decU y) (decV y)) = cF (decU y) * fi (cF (decV y)) := by rw [← cF_inv _ vl, ← cF_mul]; rfl
  have e2 : cF (x * x % pF) = cF x * cF x := by rw [← cF_mul]; rfl
  rw [e1, e2, cx]
  exact quo_x rel (fi_mul v0)
 have hs := rootR_found kP_eq xl hq v1
 cases hr : rootR kP (decU y) (decV y) with
 | none => rw [hr] at hs; cases hs
 | some r =>
  have hr2 : rootP kP (decU y) (decV y) = some r := by rw [root_same kP_eq ul vl]; exact hr
  have hi := (root_is ul hr2).1
  unfold decN
  rw [lo, if_pos yl, hr]
  by_cases c : bs 31 / 128 = 1 ∧ r = 0
  · exfalso
    obtain ⟨c1, c2⟩ := c
    rw [c2, Nat.zero_mul, Nat.zero_mod, Nat.zero_mul, Nat.zero_mod] at hi
    have u0 : cF (decU y) = 0 := by rw [← hi]; exact cF_zero
    rw [u0] at rel
    have x0 : xOf P = 0 := by
     rcases fp_zero rel with e | e
     · rcases fp_zero e with e | e <;> exact e
     · exact absurd e v0
    have : x = 0 := by rw [hx, x0]; rfl
    rw [this] at b31
    omega
  · show (if bs 31 / 128 = 1 ∧ r = 0 then none else _) ≠ none
    rw [if_neg c]
    intro e
    cases e
theorem ordN_oL : ordN = oL := rfl
theorem bP_on (m : Nat) : On dE (bP m) := emul_on ns_dE base_on m
theorem bP_add (m n : Nat) : bP (m + n) = eadd dE (bP m) (bP n) := emul_add ns_dE base_on m n
theorem bP_mul (m n : Nat) : emul dE n (bP m) = bP (m * n) := emul_mul ns_dE base_on m n
theorem bP_mod (m : Nat) : bP (m % oL) = bP m := by rw [← ordN_oL]; exact base_mod m
theorem bP_times {a : Nat} (h : bP a = ezero) (q : Nat) : bP (a * q) = ezero := by rw [← bP_mul, h, emul_none]
theorem bP_gcd (a b : Nat) : bP a = ezero → bP b = ezero → bP (Nat.gcd a b) = ezero := by
 induction a, b using Nat.gcd.induction with
 | H0 n => intro _ h; rw [Nat.gcd_zero_left]; exact h
 | H1 m n hm ih =>
  intro h1 h2
  rw [Nat.gcd_rec]
  refine ih ?_ h1
  have e := bP_add (m * (n / m)) (n % m)
  rw [Nat.div_add_mod, h2, bP_times h1, zero_eadd] at e
  exact e.symm
theorem base_not : bP 1 ≠ ezero := by
 have e : bP 1 = baseP := zero_eadd dE baseP
 rw [e]
 intro h
 have h2 : (baseP).2 = (1 : Fp) := by rw [h]; rfl
 exact absurd h2 (by decide)
theorem eadd_left {P Q R : Fp × Fp} (hP : On dE P) (hQ : On dE Q) (hR : On dE R) (h : eadd dE P Q = eadd dE P R) : Q = R := by
 have h1 := eadd_assoc ns_dE (eneg_on hP) hP hQ
 have h2 := eadd_assoc ns_dE (eneg_on hP) hP hR
 rw [eneg_add ns_dE hP, zero_eadd] at h1 h2
 rw [h1, h2, h]
theorem bP_inj_le {m n : Nat} (hmn : m ≤ n) (hn : n < oL) (h : bP m = bP n) : m = n := by
 obtain ⟨d, rfl⟩ : ∃ d, n = m + d := ⟨n - m, by omega⟩
 have hd : bP d = ezero := by
  rw [bP_add] at h
  have h0 : eadd dE (bP m) ezero = eadd dE (bP m) (bP d) := by rw [eadd_zero]; exact h
  exact (eadd_left (bP_on m) (ezero_on dE) (bP_on d) h0).symm
 rcases Nat.eq_zero_or_pos d with h0 | h0
 · omega
 · exfalso
   have ho : bP oL = ezero := by rw [← bP_mod, Nat.mod_self]; rfl
   have hg := bP_gcd d oL hd ho
   rcases ord_prime.2 (Nat.gcd d oL) (Nat.gcd_dvd_right d oL) with e | e
   · rw [e] at hg; exact base_not hg
   · have := Nat.le_of_dvd h0 (Nat.gcd_dvd_left d oL)
     rw [e, ordN_oL] at this
     omega
theorem bP_inj {m n : Nat} (hm : m < oL) (hn : n < oL) (h : bP m = bP n) : m = n := by
 rcases Nat.le_total m n with e | e
 · exact bP_inj_le e hn h
 · exact (bP_inj_le e hm h.symm).symm
theorem bP_rest {m n : Nat} (h : bP m = bP n) : m % oL = n % oL := bP_inj (Nat.mod_lt _ oL_pos) (Nat.mod_lt _ oL_pos) (by rw [bP_mod, bP_mod, h])
theorem SN_lt (s : Nat → Nat) (n : Nat) (t : Nat → Nat) : SN s n t < oL := Nat.mod_lt _ oL_pos
theorem sig_S (s : Nat → Nat) (n : Nat) (t : Nat → Nat) : sOf (sigB s n t) = SN s n t := by
 have e : sOf (sigB s n t) = ofB (byt (SN s n t)) 32 := ofB_congr 32 fun j _ => cat_right j
 rw [e, ofB_ord (SN_lt s n t)]
theorem sig_R (s : Nat → Nat) (n : Nat) (t : Nat → Nat) : ∀ j, j < 32 → encB (bP (rN s n t)) j = sigB s n t j := fun _ hj => (cat_left hj).symm
theorem pub_enc (s : Nat → Nat) : ∀ j, j < 32 → encB (bP (aN s)) j = pubB s j := fun _ _ => rfl
theorem dec_pub (s : Nat → Nat) : decN (pubB s) ≠ none := dec_enc (bP_on _) (pub_enc s)
/-- The equation of what is signed. -/
theorem SN_eq (s : Nat → Nat) (n : Nat) (t : Nat → Nat) : bP (SN s n t) = eadd dE (bP (rN s n t)) (emul dE (kN (RB s n t) (pubB s) n t) (bP (aN s))) := by
 unfold SN
 rw [bP_mod, bP_add, bP_mul, Nat.mul_comm (kN _ _ _ _)]
theorem sign_ok (s : Nat → Nat) (n : Nat) (t : Nat → Nat) : verE 32 (pubB s) n t 64 (sigB s n t) = 0 := by
 have hk : kN (sigB s n t) (pubB s) n t = kN (RB s n t) (pubB s) n t := kN_congr (fun j hj => (sig_R s n t j hj).symm) (fun _ _ => rfl) (fun _ _ => rfl)
 rw [verE_pts (dec_pub s) (dec_enc (bP_on _) (sig_R s n t)) (by rw [sig_S]; exact SN_lt s n t) (bP_on (aN s)) (bP_on (rN s n t)) (pub_enc s) (sig_R s n t), hk, sig_S]
 rw [if_pos (SN_eq s n t)]
theorem sign_other (s : Nat → Nat) (n : Nat) (t u : Nat → Nat) (h : ∀ j, j < 32 → u j = sigB s n t j) (hS : sOf u ≠ SN s n t) : verE 32 (pubB s) n t 64 u = 31 := by
 by_cases hl : sOf u < oL
 · have eR : ∀ j, j < 32 → encB (bP (rN s n t)) j = u j := fun j hj => (sig_R s n t j hj).trans (h j hj).symm
   have hk : kN u (pubB s) n t = kN (RB s n t) (pubB s) n t := kN_congr (fun j hj => (eR j hj).symm) (fun _ _ => rfl) (fun _ _ => rfl)
   rw [verE_pts (dec_pub s) (dec_enc (bP_on _) eR) hl (bP_on (aN s)) (bP_on (rN s n t)) (pub_enc s) eR, hk, if_neg]
   intro e
   exact hS (bP_inj hl (SN_lt s n t) (e.trans (SN_eq s n t).symm))
 · exact verE_sig (dec_pub s) (.inr hl)
/-- Of another text. -/
theorem sign_text (s : Nat → Nat) (n m : Nat) (t u : Nat → Nat) (h : aN s * kN (RB s n t) (pubB s) n t % oL ≠ aN s * kN (RB s n t) (pubB s) m u % oL) : verE 32 (pubB s) m u 64 (sigB s n t) = 31 := by
 have hk : kN (sigB s n t) (pubB s) m u = kN (RB s n t) (pubB s) m u := kN_congr (fun j hj => (sig_R s n t j hj).symm) (fun _ _ => rfl) (fun _ _ => rfl)
 rw [verE_pts (dec_pub s) (dec_enc (bP_on _) (sig_R s n t)) (by rw [sig_S]; exact SN_lt s n t) (bP_on (aN s)) (bP_on (rN s n t)) (pub_enc s) (sig_R s n t), hk, sig_S, if_neg]
 intro e
 rw [SN_eq, bP_mul, bP_mul] at e
 exact h (bP_rest (eadd_left (bP_on _) (bP_on _) (bP_on _) e))
end Go.Proofs.YtdgkmloabificaaDoor
namespace Go.Proofs.YtdgkmloabificaaDoor
/-- A point's bytes, out of its two numbers. -/
def encL (x y j : Nat) : Nat := if j = 31 then byt y 31 + 128 * (x % 2) else byt y j
theorem encB_L {x y : Nat} (hx : x < pF) (hy : y < pF) : encB (ptXY x y) = encL x y := funext fun j => by
 unfold encB encL
 rw [ptXY_x y hx, ptXY_y x hy]
def zB : Nat → Nat := fun _ => 0
def tA : Nat → Nat := fun _ => 97
def tB : Nat → Nat := fun _ => 98
def aZ : Nat := 39325648866980652792715009169219496062012184734522019333892538943312776480336
def xA : Nat := 9639205628789703341510410801487549615560488670885798085067615194958049462616
def yA : Nat := 18930617471878267742194159801949745215346600387277955685031939302387136031291
def rZ : Nat := 7181184326793992088570470973156240928892923053541374345874775889579607004469
def xR : Nat := 57424469103247101692668843822703452406020131022418294163025224199466881445546
def yR6 : Nat := 9325306609193551227202014907241585160928628658924949105388706877074100801655
def kA : Nat := 5342471463881428930797138262920834713104398423462459297578335204784601439577
def kB : Nat := 6613556067966685523513348689606383248005699325935486652613800825180543702365
set_option maxRecDepth 100000 in
theorem aN_z : aN zB = aZ := by kernel_rfl
set_option maxRecDepth 100000 in
theorem rN_z : rN zB 1 tA = rZ := by kernel_rfl
set_option maxRecDepth 100000 in
theorem bP_a : bP aZ = ptXY xA yA := base_times (by decide) (by kernel_rfl)
set_option maxRecDepth 100000 in
theorem bP_r : bP rZ = ptXY xR yR6 := base_times (by decide) (by kernel_rfl)
theorem pub_z : pubB zB = encL xA yA := by unfold pubB; rw [aN_z, bP_a, encB_L (by decide) (by decide)]
theorem R_z : RB zB 1 tA = encL xR yR6 := by unfold RB; rw [rN_z, bP_r, encB_L (by decide) (by decide)]
set_option maxRecDepth 100000 in
theorem k_a : kN (encL xR yR6) (encL xA yA) 1 tA = kA := by kernel_rfl
set_option maxRecDepth 100000 in
theorem k_b : kN (encL xR yR6) (encL xA yA) 1 tB = kB := by kernel_rfl
theorem pub_four : pubB zB 0 = 59 ∧ pubB zB 1 = 106 ∧ pubB zB 2 = 39 ∧ pubB zB 3 = 188 := by
 rw [pub_z]
 exact ⟨by decide, by decide, by decide, by decide⟩
theorem know_text : verE 32 (pubB zB) 1 tB 64 (sigB zB 1 tA) = 31 := sign_text zB 1 1 tA tB (by
 rw [pub_z, R_z, aN_z, k_a, k_b]
 decide)
end Go.Proofs.YtdgkmloabificaaDoor
namespace Go.Proofs.YtdgkmloabificaaDoor
open Go.RowKit
theorem num7_any (n : Int) (w : World) : Calls Tryd.prog 7 #[.int .i64 n] w fun e w' => e = .returned (.int .i64 n) ∧ w' = w := by
 go_enter Tryd.func7, Tryd.ntmps7
 go_wp2
 go_ret
 exact ⟨rfl, rfl⟩
theorem text_in (w : World) (x : Nat) (m : Nat × Nat) : BytesIn (w.alloc (.cells #[.int .u8 x] 5 m)) (.slice (some ⟨w.heap.size, 0, none⟩) 1 1) 1 (fun _ => x) := by
 refine .inr ⟨w.heap.size, 0, 1, rfl, by simp, Nat.le_refl _, fun j hj => ?_⟩
 obtain rfl : j = 0 := by omega
 rw [Nat.zero_add, cell_of_row _ _ 0 _ _ _ (heap_alloc_new w _)]
 rfl
theorem str4o (w : World) (g o cap : Nat) (x0 x1 x2 x3 : UInt8) (h0 : w.cell? ⟨g, o + 0, none⟩ = some (.int .u8 (x0.toNat : Int))) (h1 : w.cell? ⟨g, o + 1, none⟩ = some (.int .u8 (x1.toNat : Int))) (h2 : w.cell? ⟨g, o + 2, none⟩ = some (.int .u8 (x2.toNat : Int))) (h3 : w.cell? ⟨g, o + 3, none⟩ = some (.int .u8 (x3.toNat : Int))) :
 (convert 22 9 (.slice (some ⟨g, o, none⟩) 4 cap)).run Tryd.prog w = .ok (.string ⟨#[x0, x1, x2, x3]⟩) w :=
 run_convert_bytes_back w 22 9 5 ⟨g, o, none⟩ cap [x0, x1, x2, x3] Tryd.underlying22 Tryd.underlying5 (by kernel_rfl) (fun j hj => by
  rw [Addr.add_mid]
  match j, hj with
  | 0, _ => exact h0
  | 1, _ => exact h1
  | 2, _ => exact h2
  | 3, _ => exact h3)
set_option maxRecDepth 20000 in
set_option maxHeartbeats 4000000 in
theorem knows7 {G : World → Prop} {R : List Value → Fp × Fp → Prop} (cx : SgCtx G R) (w : World) (hG : G w) :
 Calls Tryd.prog 9 #[] w fun e w' => e = .returned (.bool true) ∧ Below w.heap.size w w' := by
 have hmk := make_bytes w 32 32 rfl (by decide)
 have kk := cx.api.keep
 obtain ⟨W, hW⟩ : ∃ W, W = w.alloc (.cells (zb 32) 5) := ⟨_, rfl⟩
 have hrow : RowAt .u8 W w.heap.size 0 32 zB := by rw [hW]; exact RowAt.fresh (fun j hj => zb_at 32 j hj)
 have b : Below w.heap.size w W := by rw [hW]; exact (Below.refl _ _).alloc (Nat.le_refl _) _
 rw [← hW] at hmk
 clear hW
 have z0 : ∀ j, zB j < 256 := fun _ => (by decide : 0 < 256)
 have a0 : ∀ j, tA j < 256 := fun _ => (by decide : 97 < 256)
 have b0 : ∀ j, tB j < 256 := fun _ => (by decide : 98 < 256)
 have cp := public_good cx.api cx.sha (.slice (some ⟨w.heap.size, 0, none⟩) 32 32) zB z0 W (rowB hrow (Nat.le_refl _) (by decide) (by decide)) (kk _ _ hG b)
 have cg := fun W hz hG => sign_good cx (.slice (some ⟨w.heap.size, 0, none⟩) 32 32) (.slice (some ⟨W.heap.size, 0, none⟩) 1 1) 1 zB tA z0 a0 (by decide) (W.alloc (.cells #[.int .u8 97] 5 (1, 2))) hz (text_in W 97 (1, 2)) hG
 have cv := fun (W : World) p s hp hs hG => verify_any cx p (.slice (some ⟨W.heap.size, 0, none⟩) 1 1) s 32 1 64 (pubB zB) tB (sigB zB 1 tA) (encB_lt _) b0 (sigB_lt _ _ _) (by decide) (W.alloc (.cells #[.int .u8 98] 5 (1, 2))) hp (text_in W 98 (1, 2)) hs hG
 rw [know_text] at cv
 obtain ⟨p0, p1, p2, p3⟩ := pub_four
 generalize sigB zB 1 tA = SG at *
 generalize pubB zB = PB at *
 have hca : ∀ W : World, (convert 22 22 (.slice (some ⟨W.heap.size, 0, none⟩) 1 1)).run Tryd.prog (W.alloc (.cells #[.int .u8 97] 5)) = .ok (.slice (some ⟨W.heap.size, 0, none⟩) 1 1) (W.alloc (.cells #[.int .u8 97] 5 (1, 2))) := fun W => Lib.run_convert_bytes_const W 22 5 #[.int .u8 97] 1 1 Tryd.underlying22 Tryd.underlying5
 have hcb : ∀ W : World, (convert 22 22 (.slice (some ⟨W.heap.size, 0, none⟩) 1 1)).run Tryd.prog (W.alloc (.cells #[.int .u8 98] 5)) = .ok (.slice (some ⟨W.heap.size, 0, none⟩) 1 1) (W.alloc (.cells #[.int .u8 98] 5 (1, 2))) := fun W => Lib.run_convert_bytes_const W 22 5 #[.int .u8 98] 1 1 Tryd.underlying22 Tryd.underlying5
 clear z0 a0 b0
 go_enter Tryd.func9, Tryd.ntmps9
 go_wp2_with (first
  | rw [hmk]
  | (go_at_call 5; refine cp.mono ?_; clear cp hmk; rintro e w1 ⟨s1, rfl, hp1, hb1⟩; (obtain ⟨gp, op, kp, rfl, lp, k4, hc1⟩ := hp1.resolve_left (fun ⟨_, _, h⟩ => by omega)); (have hp1 : BytesIn w1 (.slice (some ⟨gp, op, none⟩) 32 kp) 32 PB := .inr ⟨gp, op, kp, rfl, lp, k4, hc1⟩); (replace hrow := hrow.stillB hb1); (replace b := below_next b hb1); clear hb1; (have ba : Below w1.heap.size w1 (w1.alloc (.cells #[.int .u8 97] 5 (1, 2))) := (Below.refl _ _).alloc (Nat.le_refl _) _); (have cg1 := cg w1 (rowB (hrow.stillB ba) (Nat.le_refl _) (by decide) (by decide)) (kk _ _ hG (below_next b ba))); clear cg)
  | (go_at_call 6; refine cg1.mono ?_; clear cg1; rintro e w2 ⟨g2, k2, rfl, hk2, hr2, hb2⟩; (have hb12 := ba.trans (hb2.mono ba.size)); (replace hp1 := hp1.still hb12); (replace b := below_next b hb12); (have q0 := hc1 0 (by decide)); (have q1 := hc1 1 (by decide)); (have q2 := hc1 2 (by decide)); (have q3 := hc1 3 (by decide)); rw [p0] at q0; rw [p1] at q1; rw [p2] at q2; rw [p3] at q3; (replace q0 := (hb12.cell (p := ⟨gp, op + 0, none⟩) lp).trans q0); (replace q1 := (hb12.cell (p := ⟨gp, op + 1, none⟩) lp).trans q1); (replace q2 := (hb12.cell (p := ⟨gp, op + 2, none⟩) lp).trans q2); (replace q3 := (hb12.cell (p := ⟨gp, op + 3, none⟩) lp).trans q3); (have s4 := str4o w2 gp op kp 59 106 39 188 q0 q1 q2 q3); clear q0 q1 q2 q3 hc1 hb12 ba hb2; (have bb : Below w2.heap.size w2 (w2.alloc (.cells #[.int .u8 98] 5 (1, 2))) := (Below.refl _ _).alloc (Nat.le_refl _) _); (have cv2 := cv w2 _ _ (hp1.still bb) (rowB (hr2.stillB bb) (Nat.le_refl _) (by decide) hk2) (kk _ _ hG (below_next b bb))); clear cv; (have i4 : (4 : Int) ≤ (kp : Int) := by omega))
  | (go_at_call 7; refine (num7_any _ _).mono ?_; rintro e wn ⟨rfl, hwn⟩; subst hwn)
  | (go_at_call 8; refine cv2.mono ?_; clear cv2; rintro e w3 ⟨rfl, hb3⟩))
 go_ret
 exact ⟨rfl, below_next (below_next b bb) hb3⟩
end Go.Proofs.YtdgkmloabificaaDoor
namespace Go.Proofs.YtdgkmloabificaaDoor
open Go.RowKit
theorem tmod32 (k : Int) : ∃ m : Nat, m < 32 ∧ (wrap64 (k.tmod 32 + 32)).tmod 32 = (m : Int) := by
 have h1 := Int.tmod_lt_of_pos k (show (0 : Int) < 32 by decide)
 have h2 := Int.lt_tmod_of_pos k (show (0 : Int) < 32 by decide)
 generalize k.tmod 32 = t at *
 have e : wrap64 (t + 32) = t + 32 := by unfold wrap64; omega
 rw [e, Int.tmod_eq_emod_of_nonneg (by omega)]
 exact ⟨((t + 32) % 32).toNat, by omega, by omega⟩
theorem xor_ne {a x : Nat} (h : x ≠ 0) : a ^^^ x ≠ a := fun e => by
 have h1 : a ^^^ (a ^^^ x) = a ^^^ a := by rw [e]
 rw [← Nat.xor_assoc, Nat.xor_self, Nat.zero_xor] at h1
 exact h h1
/-- With a byte of S changed. -/
theorem sign_changed (s : Nat → Nat) (n : Nat) (t : Nat → Nat) (j y : Nat) (hj : j < 32) (hy : y < 256) (hne : y ≠ sigB s n t (32 + j)) : verE 32 (pubB s) n t 64 (upd (sigB s n t) (32 + j) y) = 31 := by
 refine sign_other s n t _ (fun i hi => by unfold upd; rw [if_neg (by omega)]) (fun e => hne ?_)
 rw [← sig_S] at e
 have hl : ∀ i, upd (sigB s n t) (32 + j) y (32 + i) < 256 := fun i => by
  unfold upd
  split
  · exact hy
  · exact sigB_lt _ _ _ _
 have h1 := byt_ofB (fun i => upd (sigB s n t) (32 + j) y (32 + i)) hl 32 j hj
 have h2 := byt_ofB (fun i => sigB s n t (32 + i)) (fun i => sigB_lt _ _ _ _) 32 j hj
 have e' : ofB (fun i => upd (sigB s n t) (32 + j) y (32 + i)) 32 = ofB (fun i => sigB s n t (32 + i)) 32 := e
 rw [e', h2] at h1
 simp only [upd, if_true] at h1
 exact h1.symm
theorem idx32 (j : Nat) (hj : j < 32) (x : Nat) : IntKind.i64.wrap (32 + (j : Int)) = 32 + (j : Int) ∧ wrap64 (32 + (j : Int)) = 32 + (j : Int) ∧ (32 + (j : Int)).toNat = 32 + j ∧ ((0 : Int) ≤ 32 + (j : Int) ∧ 32 + (j : Int) < 64) ∧ (x ≠ 0 → ¬((x : Int) = 0)) := by
 refine ⟨?_, ?_, ?_, ?_, ?_⟩
 · simp only [IntKind.wrap_i64]; omega
 · unfold wrap64; omega
 · omega
 · omega
 · omega
theorem block_lt_of_bytes {w : World} {g o n cap : Nat} {X : Nat → Nat} (h : BytesIn w (.slice (some ⟨g, o, none⟩) (n + 1) cap) (n + 1) X) : g < w.heap.size := by
 rcases h with ⟨_, _, h⟩ | ⟨bb, ob, c, e, hl, _⟩
 · omega
 · cases e; exact hl
theorem BytesIn.far {w : World} {g o n cap : Nat} {X : Nat → Nat} (h : BytesIn w (.slice (some ⟨g, o, none⟩) n cap) n X) (a : Addr) (ha : g ≠ a.block) (v : Value) : BytesIn (w.setCell a v) (.slice (some ⟨g, o, none⟩) n cap) n X := by
 rcases h with ⟨x, e, h⟩ | ⟨bb, ob, c, e, hl, hc, hcell⟩
 · exact .inl ⟨x, e, h⟩
 · cases e
   refine .inr ⟨g, o, cap, rfl, by simpa using hl, hc, fun j hj => ?_⟩
   rw [World.cell?_setCell_other _ _ _ _ (fun e => ha (by rw [e]))]
   exact hcell j hj
set_option maxRecDepth 20000 in
set_option maxHeartbeats 8000000 in
theorem signHolds_any {G : World → Prop} {R : List Value → Fp × Fp → Prop} (cx : SgCtx G R) (v t : Value) (n m : Nat) (bs ts : Nat → Nat) (hbs : ∀ j, bs j < 256) (hts : ∀ j, ts j < 256) (hm : m < 140737488355000) (z : Int) (x : Nat) (hx : x < 256) (w : World) (hv : BytesIn w v n bs) (ht : BytesIn w t m ts) (hG : G w) :
 Calls Tryd.prog 3 #[v, t, .int .i64 z, .int .u8 x] w fun e w' => e = .returned (.bool true) ∧ Below w.heap.size w w' := by
 have kk := cx.api.keep
 have hf := fitB_lt (n := n) hbs
 have cf := fit_any v n bs w hv
 obtain ⟨xv, cv, rfl, -, -, -⟩ := hv.src
 have cp := fun s W hs hG => public_good cx.api cx.sha s (fitB n bs) hf W hs hG
 have cg := fun s W hs ht hG => sign_good cx s t m (fitB n bs) ts hf hts (by omega) W hs ht hG
 have c1 := fun p s W hp ht hs hG => verify_any cx p t s 32 m 64 (pubB (fitB n bs)) ts (sigB (fitB n bs) m ts) (encB_lt _) hts (sigB_lt _ _ _) (by omega) W hp ht hs hG
 rw [sign_ok] at c1
 obtain ⟨j, hj, ej⟩ := tmod32 z
 have hy : ∀ b, b < 256 → b ^^^ x < 256 := fun b hb => Nat.xor_lt_two_pow (n := 8) hb hx
 have c2 := fun (hx0 : x ≠ 0) p s W hp ht hs hG => verify_any cx p t s 32 m 64 (pubB (fitB n bs)) ts (upd (sigB (fitB n bs) m ts) (32 + j) (sigB (fitB n bs) m ts (32 + j) ^^^ x)) (encB_lt _) hts (fun i => by unfold upd; split; exact hy _ (sigB_lt _ _ _ _); exact sigB_lt _ _ _ _) (by omega) W hp ht hs hG
 have c2' : ∀ (hx0 : x ≠ 0) p s W, BytesIn W p 32 (pubB (fitB n bs)) → BytesIn W t m ts → BytesIn W s 64 (upd (sigB (fitB n bs) m ts) (32 + j) (sigB (fitB n bs) m ts (32 + j) ^^^ x)) → G W → Calls Tryd.prog 8 #[p, t, s] W fun e w' => e = .returned (.int .i64 31) ∧ Below W.heap.size W w' := fun hx0 p s W hp ht hs hG => by
  have h := c2 hx0 p s W hp ht hs hG
  rw [sign_changed _ _ _ _ _ hj (hy _ (sigB_lt _ _ _ _)) (xor_ne hx0)] at h
  exact h
 have ck := fun W hG => knows7 cx W hG
 have hsl := sigB_lt (fitB n bs) m ts
 clear c2 cx hf
 generalize sigB (fitB n bs) m ts = SG at *
 generalize pubB (fitB n bs) = PB at *
 obtain ⟨xt, ct, rfl, -, -, -⟩ := ht.src
 go_enter Tryd.func3, Tryd.ntmps3
 go_upto_region 6 with (first
  | (go_at_call 4; refine cf.mono ?_; clear cf; rintro e w1 ⟨s1, rfl, hn1, b⟩; (have hb1 := NewB.bytes hn1 (by decide)); (obtain ⟨g1, rfl, -, -⟩ := hn1); (have cp1 := cp _ w1 hb1 (kk _ _ hG b)); clear cp)
  | (go_at_call 5; refine cp1.mono ?_; clear cp1; rintro e w2 ⟨s2, rfl, hp2, hb2⟩; (replace b := below_next b hb2); (obtain ⟨gp, op, kp, rfl, lp, k4, hc1⟩ := hp2.resolve_left (fun ⟨_, _, h⟩ => by omega)); (have hp2 : BytesIn w2 (.slice (some ⟨gp, op, none⟩) 32 kp) 32 PB := .inr ⟨gp, op, kp, rfl, lp, k4, hc1⟩); (have cg2 := cg _ w2 (hb1.still hb2) (ht.still b) (kk _ _ hG b)); clear cg hb2 hb1 hc1 lp)
  | (go_at_call 6; refine cg2.mono ?_; clear cg2; rintro e w3 ⟨g3, k3, rfl, hk3, hr3, hb3⟩; (replace b := below_next b hb3); (replace hp2 := hp2.still hb3); clear hb3; (have c13 := c1 _ _ w3 hp2 (ht.still b) (rowB hr3 (Nat.le_refl _) (by decide) hk3) (kk _ _ hG b)); clear c1)
  | (go_at_call 7; refine (num7_any _ _).mono ?_; rintro e wn ⟨rfl, hwn⟩; subst hwn)
  | (go_at_call 8; refine c13.mono ?_; clear c13; rintro e w4 ⟨rfl, hb4⟩; (replace b := below_next b hb4); (replace hp2 := hp2.still hb4); (replace hr3 := hr3.stillB hb4); clear hb4; (have ck4 := ck w4 (kk _ _ hG b)); clear ck)
  | (go_at_call 9; refine ck4.mono ?_; clear ck4; rintro e w5 ⟨rfl, hb5⟩; (replace b := below_next b hb5); (replace hp2 := hp2.still hb5); (replace hr3 := hr3.stillB hb5); clear hb5))
 have hp2' := hp2
 have ba : Below w5.heap.size w5 (w5.alloc (.cells #[] 5)) := (Below.refl _ _).alloc (Nat.le_refl _) _
 have src0 : Src (w5.alloc (.cells #[] 5)) (some ⟨g3, 0, none⟩) 64 SG := .inr ⟨g3, 0, rfl, fun i hi => ((hr3.stillB ba) i hi).1⟩
 clear hr3 ba
 go_upto_region 8 with (at_builtin; refine wpList_append_empty rfl (.tmp 50) (.tmp 51) rfl w5.heap.size SG _ rfl rfl (some ⟨g3, 0, none⟩) 64 k3 rfl src0 (fun h => by cases h) (by decide) (Nat.le_refl _) ?_; intro v6 w6 own6 hb6; clear src0; (obtain ⟨g6, k6, hv6, hg6, hgl6, hk6, hr6⟩ : ∃ g cap, v6 = .slice (some ⟨g, 0, none⟩) 64 cap ∧ w5.heap.size ≤ g ∧ g < w6.heap.size ∧ 64 ≤ cap ∧ RowAt .u8 w6 g 0 64 SG := own6.form.resolve_left (fun h => by omega)); subst hv6; clear own6; (replace hp2 := hp2.still hb6); (have wg6 : w.heap.size ≤ g6 := Nat.le_trans b.size hg6); (have np : gp < g6 := Nat.lt_of_lt_of_le (block_lt_of_bytes hp2') hg6); (replace b := below_next b hb6))
 have j64 : 32 + j < 64 := Nat.add_lt_add_left hj 32
 obtain ⟨rk, rf⟩ := hr6 (32 + j) j64
 rw [Nat.zero_add] at rk rf
 obtain ⟨q1, q1', q2, q3, ex0⟩ := idx32 j hj x
 have r6 := hr6.set (i := 32 + j) j64 (v := ((SG (32 + j) ^^^ x : Nat) : Int)) rfl
 rw [Nat.zero_add] at r6
 have c3 := c2'
 replace hp2 := hp2.far ⟨g6, 32 + j, none⟩ (Nat.ne_of_lt np) (.int .u8 ((SG (32 + j) ^^^ x : Nat) : Int))
 have fin := below_setCells wg6 [.int .u8 ((SG (32 + j) ^^^ x : Nat) : Int)] (32 + j) _ b
 simp only [World.setCells] at fin
 have q4 := u8_xor_nat (SG (32 + j)) x (hsl _) hx
 clear c2' hr6 hy hsl hbs hts ej b hv
 by_cases hx0 : x = 0
 · subst hx0
   clear c3 hp2 r6 ex0
   generalize SG (32 + j) ^^^ 0 = y at *
   replace q4 : bits .xor .u8 ((SG (32 + j) : Nat) : Int) 0 = (y : Int) := q4
   go_wp2
   go_ret
   exact ⟨rfl, fin⟩
 · have e0 : ¬((x : Int) = 0) := ex0 hx0
   clear ex0
   have e1 : ((x : Int) == 0) = false := beq_false_of_ne e0
   have c4 := c3 hx0 _ (.slice (some ⟨g6, 0, none⟩) 64 k6) _ hp2 (ht.still fin) (rowB r6 (Nat.le_refl _) (by decide) hk6) (kk _ _ hG fin)
   clear c3
   generalize SG (32 + j) ^^^ x = y at *
   go_wp2_with (first
    | (go_at_call 8; refine c4.mono ?_; clear c4; rintro e w8 ⟨rfl, hb8⟩)
    | (go_at_call 7; refine (num7_any _ _).mono ?_; rintro e wn ⟨rfl, hwn⟩; subst hwn))
   go_ret
   exact ⟨rfl, below_next fin hb8⟩
end Go.Proofs.YtdgkmloabificaaDoor
namespace Go.Proofs.YtdgkmloabificaaDoor
open Go.RowKit
/-- A point's cells. -/
def p16 (x y z t : Nat) : List Value := c4 x ++ (c4 y ++ (c4 z ++ c4 t))
def pV (x y z t : Nat) : Value := .agg (p16 x y z t).toArray
theorem p16_len (x y z t : Nat) : (p16 x y z t).length = 16 := rfl
theorem p16_same (x y z t x' y' z' t' : Nat) : (p16 x y z t).length = (p16 x' y' z' t').length := rfl
theorem zP_16 : zP = (p16 0 0 0 0).toArray := by kernel_rfl
theorem fresh16 (w : World) : ∃ w' g, w.alloc (.cells zP 45) = w' ∧ w.heap.size = g ∧ Below w.heap.size w w' ∧ RW w' g 0 (p16 0 0 0 0) := by
 refine ⟨_, _, rfl, rfl, (Below.refl _ _).alloc (Nat.le_refl _) _, ?_⟩
 rw [zP_16]; exact RW.fresh w _ _
theorem info16 (x y z t : Nat) : (Tryd.prog.info? 45).map (·.size) = some (p16 x y z t).length := infoPs
theorem info16A (x y z t : Nat) : (Tryd.prog.info? 45).map (·.size) = some (p16 x y z t).toArray.size := infoPs
theorem one16 (x y z t : Nat) : (p16 x y z t).toArray.all (·.oneCell') = true := by simp [p16, c4, Value.oneCell']
theorem thr16 {w : World} {g x y z t : Nat} (r : RW w g 0 (p16 x y z t)) (x' y' z' t' : Nat) : w.there g 0 (p16 x' y' z' t').toArray.size := r.there
theorem parts16 {w : World} {g x y z t : Nat} (r : RW w g 0 (p16 x y z t)) : RW w g 0 (c4 x) ∧ RW w g 4 (c4 y) ∧ RW w g 8 (c4 z) ∧ RW w g 12 (c4 t) :=
 ⟨RW.left r, RW.left (RW.right r), RW.left (RW.right (RW.right r)), RW.right (RW.right (RW.right r))⟩
theorem builtP4 (x y z t : Nat) : Tryd.prog.built 45 [(0, numV x), (1, numV y), (2, numV z), (3, numV t)] = some (p16 x y z t).toArray := by kernel_rfl
theorem builtP0 : Tryd.prog.built 45 [] = some (p16 0 0 0 0).toArray := by kernel_rfl
theorem eq_num_at (w : World) (d : Nat) {a b : Nat} (ha : a < pF) (hb : b < pF) : (Op.equalIn (d + 3) 43 (numV a) (numV b)).run Tryd.prog w = .ok (decide (a = b)) w := by
 unfold numV
 rw [show d + 3 = (d + 2) + 1 from rfl, run_equalIn_agg w (d + 2) 43 _ _ (by kernel_rfl) (by kernel_rfl)]
 simp only [Program.fieldsOf, Tryd.underlying43, Op.eqFields]
 rw [if_pos (by decide)]
 simp only [Sem.run_bind]
 rw [part_num]
 simp only [Result.andThen_ok]
 rw [part_num]
 simp only [Result.andThen_ok]
 rw [run_eq4 w d 41 39 .u64 (by kernel_rfl) (by kernel_rfl) (by kernel_rfl)]
 simp only [Result.andThen_ok]
 by_cases h : a = b
 · subst h
   simp
 · have hn : ((lw a 0 : Int) == (lw b 0 : Int) && (lw a 1 : Int) == (lw b 1 : Int) && (lw a 2 : Int) == (lw b 2 : Int) && (lw a 3 : Int) == (lw b 3 : Int)) = false := by
    rcases Bool.eq_false_or_eq_true ((lw a 0 : Int) == (lw b 0 : Int) && (lw a 1 : Int) == (lw b 1 : Int) && (lw a 2 : Int) == (lw b 2 : Int) && (lw a 3 : Int) == (lw b 3 : Int)) with e | e
    · exfalso
      simp only [Bool.and_eq_true, beq_iff_eq] at e
      exact h (lw_inj ha hb (by omega) (by omega) (by omega) (by omega))
    · exact e
   rw [hn, decide_eq_false h]
   simp
theorem part_p0 (w : World) (x y z t : Nat) : (part 43 (p16 x y z t).toArray 0).run Tryd.prog w = .ok (numV x) w := by kernel_rfl
theorem part_p1 (w : World) (x y z t : Nat) : (part 43 (p16 x y z t).toArray 4).run Tryd.prog w = .ok (numV y) w := by kernel_rfl
theorem part_p2 (w : World) (x y z t : Nat) : (part 43 (p16 x y z t).toArray 8).run Tryd.prog w = .ok (numV z) w := by kernel_rfl
theorem part_p3 (w : World) (x y z t : Nat) : (part 43 (p16 x y z t).toArray 12).run Tryd.prog w = .ok (numV t) w := by kernel_rfl
theorem eq_pt (w : World) {p q : N4} (hp : p.Ok) (hq : q.Ok) : (Op.equalIn 10000 45 (pV p.X p.Y p.Z p.T) (pV q.X q.Y q.Z q.T)).run Tryd.prog w = .ok (decide (p.X = q.X) && decide (p.Y = q.Y) && decide (p.Z = q.Z) && decide (p.T = q.T)) w := by
 unfold pV
 rw [show (10000 : Nat) = 9999 + 1 from rfl, run_equalIn_agg w 9999 45 _ _ (by kernel_rfl) (by kernel_rfl)]
 simp only [Program.fieldsOf, Tryd.underlying45, Op.eqFields]
 rw [show (9999 : Nat) = 9996 + 3 from rfl]
 simp only [Sem.run_bind, Sem.run_ite, part_p0, part_p1, part_p2, part_p3, Result.andThen_ok, eq_num_at w 9996 hp.X hq.X, eq_num_at w 9996 hp.Y hq.Y, eq_num_at w 9996 hp.Z hq.Z, eq_num_at w 9996 hp.T hq.T]
 cases h0 : decide (p.X = q.X) <;> cases h1 : decide (p.Y = q.Y) <;> cases h2 : decide (p.Z = q.Z) <;> cases h3 : decide (p.T = q.T) <;> simp
theorem exec_eqp (w : World) {p q : N4} (hp : p.Ok) (hq : q.Ok) (x y : Operand) : (do eqGuard .eql 45 x y (pV p.X p.Y p.Z p.T) (pV q.X q.Y q.Z q.T); binOp .eql 45 (pV p.X p.Y p.Z p.T) (pV q.X q.Y q.Z q.T) : Sem Value).run Tryd.prog w = .ok (.bool (decide (p.X = q.X) && decide (p.Y = q.Y) && decide (p.Z = q.Z) && decide (p.T = q.T))) w := by
 rw [Sem.run_bind, show (eqGuard .eql 45 x y (pV p.X p.Y p.Z p.T) (pV q.X q.Y q.Z q.T)).run Tryd.prog w = .ok () w from run_eqGuard_agg w .eql 45 x y _ _ (by kernel_rfl)]
 simp only [Result.andThen_ok]
 rw [show (binOp .eql 45 (pV p.X p.Y p.Z p.T) (pV q.X q.Y q.Z q.T)).run Tryd.prog w = ((Op.equalIn 10000 45 (pV p.X p.Y p.Z p.T) (pV q.X q.Y q.Z q.T)).run Tryd.prog w).andThen fun b w' => .ok (.bool b) w' from run_eql_struct w 45 _ _, eq_pt w hp hq]
 rfl
/-- A point and the zero one. -/
theorem wpList_eqp {ops : Array Oper} {rest : List Oper} {op : Oper} {a : Act} {w : World} {Q : Exit → Act → World → Prop} (hgd : op.guard = none) (x y : Operand) (t2 : TypeId) (ho : op.op = .binOp .eql 45 x y t2) (p : N4) (hp : p.Ok)
 (hx : a.eval x = .agg (p16 p.X p.Y p.Z p.T).toArray) (hy : a.eval y = .agg (p16 0 0 0 0).toArray) (z : Bool) (hz : (decide (p.X = 0) && decide (p.Y = 0) && decide (p.Z = 0) && decide (p.T = 0)) = z) (h : wpList Tryd.prog ops Q rest (a.put op.dst (.bool z)) w) : wpList Tryd.prog ops Q (op :: rest) a w :=
 wpList_plain hgd fun K hK => by
  have e := exec_eqp w hp (q := ⟨0, 0, 0, 0⟩) ⟨by decide, by decide, by decide, by decide⟩ x y
  unfold pV at e
  unfold Oper.wp execOp
  simp only [ho, hx, hy]
  rw [Sem.run_bind, e, hz]
  exact hK _ _ h
end Go.Proofs.YtdgkmloabificaaDoor
namespace Go.Proofs.YtdgkmloabificaaDoor
open Go.RowKit
set_option maxRecDepth 20000 in
set_option maxHeartbeats 4000000 in
theorem pnumber_any (v : Value) (n : Nat) (bs : Nat → Nat) (hbs : ∀ j, bs j < 256) (w : World) (hv : BytesIn w v n bs) :
 Calls Tryd.prog 40 #[v] w fun e w' => e = .returned (numV (fromN n bs)) ∧ Below w.heap.size w w' := by
 have cf : ∀ W, BytesIn W v n bs → Calls Tryd.prog 65 #[v] W fun e w' => e = .returned (.tuple #[.agg (c4 (fromN n bs)).toArray, .int .i64 (fromE n)]) ∧ Below W.heap.size W w' := fun W h => from_any v n bs hbs W h
 rw [show numV (fromN n bs) = .agg (c4 (fromN n bs)).toArray from rfl]
 generalize fromN n bs = m at *
 obtain ⟨W, g, eW, hg, b, h0⟩ := fresh4 w
 replace hv := hv.still b
 have HW : Hid (w.alloc (.cells #[.int .u64 0, .int .u64 0, .int .u64 0, .int .u64 0] 43) = W) := Hid.mk' eW
 have Hg : Hid (w.heap.size = g) := Hid.mk' hg
 have wg : w.heap.size ≤ g := Nat.le_of_eq hg
 clear eW hg
 go_enter Tryd.func40, Tryd.ntmps40
 go_wp2_with (first
  | (go_at_call 65; rw [HW.out, Hg.out]; refine (cf _ hv).mono ?_; clear cf HW Hg; rintro e w1 ⟨rfl, hb1⟩; (have l0 := h0.lt); (replace h0 := h0.still hb1); (replace b := below_next b hb1); (have n01 : g ≠ w1.heap.size := Nat.ne_of_lt (Nat.lt_of_lt_of_le l0 hb1.size)); clear hb1 l0 hv; (have z1 := fresh4' w1); (have t1 := fresh4t w1 m); (obtain ⟨V1, hV1⟩ : ∃ V, V = (w1.alloc (.cells #[.int .u64 0, .int .u64 0, .int .u64 0, .int .u64 0] 43)).setCells w1.heap.size 0 (c4 m) := ⟨_, rfl⟩); (have h1 : RW V1 w1.heap.size 0 (c4 m) := by rw [hV1]; exact z1.stored (c4 m) rfl); (have b1 : Below w1.heap.size w1 V1 := by rw [hV1]; exact below_setCells (Nat.le_refl _) _ _ _ ((Below.refl _ _).alloc (Nat.le_refl _) _)); (have H1 := Hid.mk' hV1); clear hV1 z1; (replace h0 := h0.still b1); (replace b := below_next b b1); clear b1; (have t0 : V1.there g 0 (c4 m).toArray.size := h0.there))
  | (with_reducible (refine id (?_ : wpList _ _ _ _ _ _)); refine wpList_store_mid rfl 43 _ _ rfl w1.heap.size 0 (c4 m).toArray rfl rfl t1 (info4a m) (one4 m) ?_; rw [List.toList_toArray, ← H1.out]; clear t1 H1)
  | (refine wpList_load_mid rfl 43 _ rfl w1.heap.size 0 rfl (c4 m) _ h1.range Tryd.underlying43 rfl info4 ?_)
  | (with_reducible (refine id (?_ : wpList _ _ _ _ _ _)); refine wpList_store_mid rfl 43 _ _ rfl g 0 (c4 m).toArray rfl rfl t0 (info4a m) (one4 m) ?_))
 (try simp only [Exit.inBlock, Exit.then])
 exact bodyPost_ret (results_cell_mid Tryd.results40 _ _ g 0 (c4 m) _ rfl (h0.stored (c4 m) rfl).range Tryd.underlying43 rfl info4) rfl ⟨rfl, below_setCells wg _ _ _ b⟩
end Go.Proofs.YtdgkmloabificaaDoor
namespace Go.Proofs.YtdgkmloabificaaDoor
open Go.RowKit
theorem row_bytes (w : World) (L : List Nat) (hL : L.length = 32) : BytesIn (w.alloc (.cells (L.map fun (b : Nat) => Value.int .u8 (b : Int)).toArray 5)) (.slice (some ⟨w.heap.size, 0, none⟩) 32 32) 32 (fun j => L.getD j 0) := by
 refine .inr ⟨w.heap.size, 0, 32, rfl, by simp, Nat.le_refl _, fun j hj => ?_⟩
 have hr := (RW.fresh w (L.map fun (b : Nat) => Value.int .u8 (b : Int)) 5).range
 have h := hr j (Value.int .u8 ((L.getD j 0 : Nat) : Int)) (by
  rw [List.getElem?_map, List.getElem?_eq_getElem (by omega)]
  simp [List.getD, List.getElem?_eq_getElem (show j < L.length by omega)])
 exact h
def curveDL : List Nat := [163, 120, 89, 19, 202, 77, 235, 117, 171, 216, 65, 65, 77, 10, 112, 0, 152, 232, 121, 119, 121, 64, 199, 140, 115, 254, 111, 43, 238, 108, 3, 82]
theorem curveDL_lt (j : Nat) : curveDL.getD j 0 < 256 := by
 rcases Nat.lt_or_ge j 32 with h | h
 · revert h j; decide
 · rw [List.getD, List.getElem?_eq_none h]; decide
theorem curveDL_is : fromN 32 (fun j => curveDL.getD j 0) = dN := by kernel_rfl
set_option maxRecDepth 20000 in
set_option maxHeartbeats 4000000 in
theorem curveD_any (w : World) : Calls Tryd.prog 67 #[] w fun e w' => e = .returned (numV dN) ∧ Below w.heap.size w w' := by
 have cn : ∀ W v, BytesIn W v 32 (fun j => curveDL.getD j 0) → Calls Tryd.prog 40 #[v] W fun e w' => e = .returned (.agg (c4 dN).toArray) ∧ Below W.heap.size W w' := fun W v h => by
  have k := pnumber_any v 32 _ curveDL_lt W h
  rw [curveDL_is] at k
  exact k
 rw [show numV dN = .agg (c4 dN).toArray from rfl]
 generalize dN = m at *
 obtain ⟨W, g, eW, hg, b, h0⟩ := fresh4 w
 have hs : W.heap.size = w.heap.size + 1 := by rw [← eW]; simp
 have hv : BytesIn (W.alloc (.cells #[.int .u8 163, .int .u8 120, .int .u8 89, .int .u8 19, .int .u8 202, .int .u8 77, .int .u8 235, .int .u8 117, .int .u8 171, .int .u8 216, .int .u8 65, .int .u8 65, .int .u8 77, .int .u8 10, .int .u8 112, .int .u8 0, .int .u8 152, .int .u8 232, .int .u8 121, .int .u8 119, .int .u8 121, .int .u8 64, .int .u8 199, .int .u8 140, .int .u8 115, .int .u8 254, .int .u8 111, .int .u8 43, .int .u8 238, .int .u8 108, .int .u8 3, .int .u8 82] 5)) (.slice (some ⟨w.heap.size + 1, 0, none⟩) 32 32) 32 (fun j => curveDL.getD j 0) := by rw [← hs]; exact row_bytes W curveDL rfl
 obtain ⟨V, eV⟩ : ∃ V, W.alloc (.cells #[.int .u8 163, .int .u8 120, .int .u8 89, .int .u8 19, .int .u8 202, .int .u8 77, .int .u8 235, .int .u8 117, .int .u8 171, .int .u8 216, .int .u8 65, .int .u8 65, .int .u8 77, .int .u8 10, .int .u8 112, .int .u8 0, .int .u8 152, .int .u8 232, .int .u8 121, .int .u8 119, .int .u8 121, .int .u8 64, .int .u8 199, .int .u8 140, .int .u8 115, .int .u8 254, .int .u8 111, .int .u8 43, .int .u8 238, .int .u8 108, .int .u8 3, .int .u8 82] 5) = V := ⟨_, rfl⟩
 have bV : Below W.heap.size W V := by rw [← eV]; exact (Below.refl _ _).alloc (Nat.le_refl _) _
 rw [eV] at hv
 have HV : Hid ((w.alloc (.cells #[.int .u64 0, .int .u64 0, .int .u64 0, .int .u64 0] 43)).alloc (.cells #[.int .u8 163, .int .u8 120, .int .u8 89, .int .u8 19, .int .u8 202, .int .u8 77, .int .u8 235, .int .u8 117, .int .u8 171, .int .u8 216, .int .u8 65, .int .u8 65, .int .u8 77, .int .u8 10, .int .u8 112, .int .u8 0, .int .u8 152, .int .u8 232, .int .u8 121, .int .u8 119, .int .u8 121, .int .u8 64, .int .u8 199, .int .u8 140, .int .u8 115, .int .u8 254, .int .u8 111, .int .u8 43, .int .u8 238, .int .u8 108, .int .u8 3, .int .u8 82] 5) = V) := Hid.mk' (by rw [eW, eV])
 have Hg : Hid (w.heap.size = g) := Hid.mk' hg
 have wg : w.heap.size ≤ g := Nat.le_of_eq hg
 replace h0 := h0.still bV
 replace b := below_next b bV
 clear eW hg eV bV hs W
 go_enter Tryd.func67, Tryd.ntmps67
 go_wp2_with (first
  | (go_at_call 40; rw [HV.out]; refine (cn _ _ hv).mono ?_; rw [Hg.out]; clear cn HV Hg; rintro e w1 ⟨rfl, hb1⟩; (replace h0 := h0.still hb1); (replace b := below_next b hb1); clear hb1; (have t0 : w1.there g 0 (c4 m).toArray.size := h0.there))
  | (with_reducible (refine id (?_ : wpList _ _ _ _ _ _)); refine wpList_store_mid rfl 43 _ _ rfl g 0 (c4 m).toArray rfl rfl t0 (info4a m) (one4 m) ?_))
 (try simp only [Exit.inBlock, Exit.then])
 exact bodyPost_ret (results_cell_mid Tryd.results67 _ _ g 0 (c4 m) _ rfl (h0.stored (c4 m) rfl).range Tryd.underlying43 rfl info4) rfl ⟨rfl, below_setCells wg _ _ _ b⟩
def baseXL : List Nat := [26, 213, 37, 143, 96, 45, 86, 201, 178, 167, 37, 149, 96, 199, 44, 105, 92, 220, 214, 253, 49, 226, 164, 192, 254, 83, 110, 205, 211, 54, 105, 33]
theorem baseXL_lt (j : Nat) : baseXL.getD j 0 < 256 := by
 rcases Nat.lt_or_ge j 32 with h | h
 · revert h j; decide
 · rw [List.getD, List.getElem?_eq_none h]; decide
theorem baseXL_is : fromN 32 (fun j => baseXL.getD j 0) = xB := by kernel_rfl
set_option maxRecDepth 20000 in
set_option maxHeartbeats 4000000 in
theorem baseX_any (w : World) : Calls Tryd.prog 29 #[] w fun e w' => e = .returned (numV xB) ∧ Below w.heap.size w w' := by
 have cn : ∀ W v, BytesIn W v 32 (fun j => baseXL.getD j 0) → Calls Tryd.prog 40 #[v] W fun e w' => e = .returned (.agg (c4 xB).toArray) ∧ Below W.heap.size W w' := fun W v h => by
  have k := pnumber_any v 32 _ baseXL_lt W h
  rw [baseXL_is] at k
  exact k
 rw [show numV xB = .agg (c4 xB).toArray from rfl]
 generalize xB = m at *
 obtain ⟨W, g, eW, hg, b, h0⟩ := fresh4 w
 have hs : W.heap.size = w.heap.size + 1 := by rw [← eW]; simp
 have hv : BytesIn (W.alloc (.cells #[.int .u8 26, .int .u8 213, .int .u8 37, .int .u8 143, .int .u8 96, .int .u8 45, .int .u8 86, .int .u8 201, .int .u8 178, .int .u8 167, .int .u8 37, .int .u8 149, .int .u8 96, .int .u8 199, .int .u8 44, .int .u8 105, .int .u8 92, .int .u8 220, .int .u8 214, .int .u8 253, .int .u8 49, .int .u8 226, .int .u8 164, .int .u8 192, .int .u8 254, .int .u8 83, .int .u8 110, .int .u8 205, .int .u8 211, .int .u8 54, .int .u8 105, .int .u8 33] 5)) (.slice (some ⟨w.heap.size + 1, 0, none⟩) 32 32) 32 (fun j => baseXL.getD j 0) := by rw [← hs]; exact row_bytes W baseXL rfl
 obtain ⟨V, eV⟩ : ∃ V, W.alloc (.cells #[.int .u8 26, .int .u8 213, .int .u8 37, .int .u8 143, .int .u8 96, .int .u8 45, .int .u8 86, .int .u8 201, .int .u8 178, .int .u8 167, .int .u8 37, .int .u8 149, .int .u8 96, .int .u8 199, .int .u8 44, .int .u8 105, .int .u8 92, .int .u8 220, .int .u8 214, .int .u8 253, .int .u8 49, .int .u8 226, .int .u8 164, .int .u8 192, .int .u8 254, .int .u8 83, .int .u8 110, .int .u8 205, .int .u8 211, .int .u8 54, .int .u8 105, .int .u8 33] 5) = V := ⟨_, rfl⟩
 have bV : Below W.heap.size W V := by rw [← eV]; exact (Below.refl _ _).alloc (Nat.le_refl _) _
 rw [eV] at hv
 have HV : Hid ((w.alloc (.cells #[.int .u64 0, .int .u64 0, .int .u64 0, .int .u64 0] 43)).alloc (.cells #[.int .u8 26, .int .u8 213, .int .u8 37, .int .u8 143, .int .u8 96, .int .u8 45, .int .u8 86, .int .u8 201, .int .u8 178, .int .u8 167, .int .u8 37, .int .u8 149, .int .u8 96, .int .u8 199, .int .u8 44, .int .u8 105, .int .u8 92, .int .u8 220, .int .u8 214, .int .u8 253, .int .u8 49, .int .u8 226, .int .u8 164, .int .u8 192, .int .u8 254, .int .u8 83, .int .u8 110, .int .u8 205, .int .u8 211, .int .u8 54, .int .u8 105, .int .u8 33] 5) = V) := Hid.mk' (by rw [eW, eV])
 have Hg : Hid (w.heap.size = g) := Hid.mk' hg
 have wg : w.heap.size ≤ g := Nat.le_of_eq hg
 replace h0 := h0.still bV
 replace b := below_next b bV
 clear eW hg eV bV hs W
 go_enter Tryd.func29, Tryd.ntmps29
 go_wp2_with (first
  | (go_at_call 40; rw [HV.out]; refine (cn _ _ hv).mono ?_; rw [Hg.out]; clear cn HV Hg; rintro e w1 ⟨rfl, hb1⟩; (replace h0 := h0.still hb1); (replace b := below_next b hb1); clear hb1; (have t0 : w1.there g 0 (c4 m).toArray.size := h0.there))
  | (with_reducible (refine id (?_ : wpList _ _ _ _ _ _)); refine wpList_store_mid rfl 43 _ _ rfl g 0 (c4 m).toArray rfl rfl t0 (info4a m) (one4 m) ?_))
 (try simp only [Exit.inBlock, Exit.then])
 exact bodyPost_ret (results_cell_mid Tryd.results29 _ _ g 0 (c4 m) _ rfl (h0.stored (c4 m) rfl).range Tryd.underlying43 rfl info4) rfl ⟨rfl, below_setCells wg _ _ _ b⟩
def baseYL : List Nat := [88, 102, 102, 102, 102, 102, 102, 102, 102, 102, 102, 102, 102, 102, 102, 102, 102, 102, 102, 102, 102, 102, 102, 102, 102, 102, 102, 102, 102, 102, 102, 102]
theorem baseYL_lt (j : Nat) : baseYL.getD j 0 < 256 := by
 rcases Nat.lt_or_ge j 32 with h | h
 · revert h j; decide
 · rw [List.getD, List.getElem?_eq_none h]; decide
theorem baseYL_is : fromN 32 (fun j => baseYL.getD j 0) = yB := by kernel_rfl
set_option maxRecDepth 20000 in
set_option maxHeartbeats 4000000 in
theorem baseY_any (w : World) : Calls Tryd.prog 30 #[] w fun e w' => e = .returned (numV yB) ∧ Below w.heap.size w w' := by
 have cn : ∀ W v, BytesIn W v 32 (fun j => baseYL.getD j 0) → Calls Tryd.prog 40 #[v] W fun e w' => e = .returned (.agg (c4 yB).toArray) ∧ Below W.heap.size W w' := fun W v h => by
  have k := pnumber_any v 32 _ baseYL_lt W h
  rw [baseYL_is] at k
  exact k
 rw [show numV yB = .agg (c4 yB).toArray from rfl]
 generalize yB = m at *
 obtain ⟨W, g, eW, hg, b, h0⟩ := fresh4 w
 have hs : W.heap.size = w.heap.size + 1 := by rw [← eW]; simp
 have hv : BytesIn (W.alloc (.cells #[.int .u8 88, .int .u8 102, .int .u8 102, .int .u8 102, .int .u8 102, .int .u8 102, .int .u8 102, .int .u8 102, .int .u8 102, .int .u8 102, .int .u8 102, .int .u8 102, .int .u8 102, .int .u8 102, .int .u8 102, .int .u8 102, .int .u8 102, .int .u8 102, .int .u8 102, .int .u8 102, .int .u8 102, .int .u8 102, .int .u8 102, .int .u8 102, .int .u8 102, .int .u8 102, .int .u8 102, .int .u8 102, .int .u8 102, .int .u8 102, .int .u8 102, .int .u8 102] 5)) (.slice (some ⟨w.heap.size + 1, 0, none⟩) 32 32) 32 (fun j => baseYL.getD j 0) := by rw [← hs]; exact row_bytes W baseYL rfl
 obtain ⟨V, eV⟩ : ∃ V, W.alloc (.cells #[.int .u8 88, .int .u8 102, .int .u8 102, .int .u8 102, .int .u8 102, .int .u8 102, .int .u8 102, .int .u8 102, .int .u8 102, .int .u8 102, .int .u8 102, .int .u8 102, .int .u8 102, .int .u8 102, .int .u8 102, .int .u8 102, .int .u8 102, .int .u8 102, .int .u8 102, .int .u8 102, .int .u8 102, .int .u8 102, .int .u8 102, .int .u8 102, .int .u8 102, .int .u8 102, .int .u8 102, .int .u8 102, .int .u8 102, .int .u8 102, .int .u8 102, .int .u8 102] 5) = V := ⟨_, rfl⟩
 have bV : Below W.heap.size W V := by rw [← eV]; exact (Below.refl _ _).alloc (Nat.le_refl _) _
 rw [eV] at hv
 have HV : Hid ((w.alloc (.cells #[.int .u64 0, .int .u64 0, .int .u64 0, .int .u64 0] 43)).alloc (.cells #[.int .u8 88, .int .u8 102, .int .u8 102, .int .u8 102, .int .u8 102, .int .u8 102, .int .u8 102, .int .u8 102, .int .u8 102, .int .u8 102, .int .u8 102, .int .u8 102, .int .u8 102, .int .u8 102, .int .u8 102, .int .u8 102, .int .u8 102, .int .u8 102, .int .u8 102, .int .u8 102, .int .u8 102, .int .u8 102, .int .u8 102, .int .u8 102, .int .u8 102, .int .u8 102, .int .u8 102, .int .u8 102, .int .u8 102, .int .u8 102, .int .u8 102, .int .u8 102] 5) = V) := Hid.mk' (by rw [eW, eV])
 have Hg : Hid (w.heap.size = g) := Hid.mk' hg
 have wg : w.heap.size ≤ g := Nat.le_of_eq hg
 replace h0 := h0.still bV
 replace b := below_next b bV
 clear eW hg eV bV hs W
 go_enter Tryd.func30, Tryd.ntmps30
 go_wp2_with (first
  | (go_at_call 40; rw [HV.out]; refine (cn _ _ hv).mono ?_; rw [Hg.out]; clear cn HV Hg; rintro e w1 ⟨rfl, hb1⟩; (replace h0 := h0.still hb1); (replace b := below_next b hb1); clear hb1; (have t0 : w1.there g 0 (c4 m).toArray.size := h0.there))
  | (with_reducible (refine id (?_ : wpList _ _ _ _ _ _)); refine wpList_store_mid rfl 43 _ _ rfl g 0 (c4 m).toArray rfl rfl t0 (info4a m) (one4 m) ?_))
 (try simp only [Exit.inBlock, Exit.then])
 exact bodyPost_ret (results_cell_mid Tryd.results30 _ _ g 0 (c4 m) _ rfl (h0.stored (c4 m) rfl).range Tryd.underlying43 rfl info4) rfl ⟨rfl, below_setCells wg _ _ _ b⟩
end Go.Proofs.YtdgkmloabificaaDoor
namespace Go.Proofs.YtdgkmloabificaaDoor
open Go.RowKit
abbrev qa1x7 : Oper := oS (Op.store 45 (oT 4) (oT 11)) "curve.go:41" #[jD 6, jC 5, jP 0, jP 1, jP 2, jP 3, jP 4, jP 5, jP 6]
abbrev qa2x13 : Oper := oS (Op.store 45 (oT 8) (oT 21)) "curve.go:70" #[jD 12, jC 11, jP 0, jP 1, jP 2, jP 3, jP 4, jP 5, jP 6, jP 7, jP 8, jP 9, jP 10, jP 11, jP 12]
set_option maxRecDepth 20000 in
set_option maxHeartbeats 4000000 in
theorem pat_raw (x y t : Nat)
 (ct : ∀ W, Calls Tryd.prog 34 #[numV x, numV y] W fun e w' => e = .returned (numV t) ∧ Below W.heap.size W w')
 (w : World) : Calls Tryd.prog 28 #[numV x, numV y] w fun e w' => e = .returned (pV x y 1 t) ∧ Below w.heap.size w w' := by
 have hzp := zeroP
 have c1 : ∀ W, Calls Tryd.prog 55 #[.int .i64 1] W fun e w' => e = .returned (numV 1) ∧ Below W.heap.size W w' := fsmall_pos 1 (by decide)
 obtain ⟨V1, g2, eg2, hg2, bg2, hx⟩ : ∃ V g, w.alloc (.cells (c4 x).toArray 43) = V ∧ w.heap.size = g ∧ Below w.heap.size w V ∧ RW V g 0 (c4 x) := ⟨_, _, rfl, rfl, (Below.refl _ _).alloc (Nat.le_refl _) _, RW.fresh w _ _⟩
 obtain ⟨V2, g3, eg3, hg3, bg3, hy⟩ : ∃ V g, V1.alloc (.cells (c4 y).toArray 43) = V ∧ V1.heap.size = g ∧ Below V1.heap.size V1 V ∧ RW V g 0 (c4 y) := ⟨_, _, rfl, rfl, (Below.refl _ _).alloc (Nat.le_refl _) _, RW.fresh V1 _ _⟩
 obtain ⟨W, g4, e4, hg4, b4, hres⟩ := fresh16 V2
 have t1 : V1.heap.size = w.heap.size + 1 := by rw [← eg2]; simp
 have t2 : V2.heap.size = V1.heap.size + 1 := by rw [← eg3]; simp
 have HW : Hid (W = ((w.alloc (.cells (c4 x).toArray 43)).alloc (.cells (c4 y).toArray 43)).alloc (.cells zP 45)) := Hid.mk' (by rw [← e4, ← eg3, ← eg2])
 have q2 : Hid (w.heap.size = g2) := Hid.mk' hg2
 have q3 : Hid (w.heap.size + 1 = g3) := Hid.mk' (by omega)
 have q4 : Hid (w.heap.size + 1 + 1 = g4) := Hid.mk' (by omega)
 replace hx := (hx.still bg3).still b4
 replace hy := hy.still b4
 have hbW : Below w.heap.size w W := (bg2.trans (bg3.mono (by omega))).trans (b4.mono (by omega))
 have w4 : w.heap.size ≤ g4 := by omega
 have n24 : g2 ≠ g4 := by omega
 have n34 : g3 ≠ g4 := by omega
 have l4 := hres.lt
 clear eg2 eg3 e4 hg2 hg3 hg4 bg2 bg3 b4 t1 t2 V1 V2
 rw [show numV x = .agg (c4 x).toArray from rfl, show numV y = .agg (c4 y).toArray from rfl]
 go_enter Tryd.func28, Tryd.ntmps28
 go_upto_region 1 with (fail)
 rw [← HW.out, q4.out, q3.out, q2.out]
 clear HW q2 q3 q4
 have hdrew : Below W.heap.size W W.drew := (Below.refl _ _).drew
 replace hx := hx.still hdrew
 replace hy := hy.still hdrew
 replace hres := hres.still hdrew
 refine wp_region_noPanic ?_
 replace l4 := Nat.lt_of_lt_of_le l4 hdrew.size
 refine wp_region_held_drew (S := fun w' => Out g4 0 16 W.drew w') (by kernel_rfl) (Out.refl _ _ _ _) (fun hS => ?_)
 generalize W.drew = Va1_ at *
 refine tkH 0 (oN 5 (Op.load 43 (oT 2)) 43 "curve.go:41" #[]) (numV x) hS (ldO hx n24 43 2 Tryd.underlying43 info4) ?_
 (try simp only [pS])
 refine tkH 1 (oN 6 (Op.load 43 (oT 3)) 43 "curve.go:41" #[]) (numV y) hS (ldO hy n34 43 3 Tryd.underlying43 info4) ?_
 (try simp only [pS])
 refine tkH 3 (oN 8 (Op.load 43 (oT 2)) 43 "curve.go:41" #[]) (numV x) hS (ldO hx n24 43 2 Tryd.underlying43 info4) ?_
 (try simp only [pS])
 refine tkH 4 (oN 9 (Op.load 43 (oT 3)) 43 "curve.go:41" #[]) (numV y) hS (ldO hy n34 43 3 Tryd.underlying43 info4) ?_
 (try simp only [pS])
 refine callH 2 (oN 7 (cF1 55 #[Operand.const (Value.int IntKind.i64 1)] #[3]) 43 "curve.go:41" #[]) (c1 _) ?_
 (clear c1; rintro e wa1_1 ⟨rfl, hba1_1⟩)
 have hSa1_1 := hS.trans (Out.of_below hba1_1 l4)
 replace l4 := Nat.lt_of_lt_of_le l4 hba1_1.size
 replace hres := hres.still hba1_1
 refine ⟨_, rfl, hSa1_1, ?_⟩
 clear hba1_1
 (try simp only [pS])
 refine callH 5 (oN 10 (cF1 34 #[oT 8, oT 9] #[43, 43]) 43 "curve.go:41" #[jD 3, jD 4, jC 2]) (ct _) ?_
 (clear ct; rintro e wa1_2 ⟨rfl, hba1_2⟩)
 have hSa1_2 := hSa1_1.trans (Out.of_below hba1_2 l4)
 replace l4 := Nat.lt_of_lt_of_le l4 hba1_2.size
 replace hres := hres.still hba1_2
 refine ⟨_, rfl, hSa1_2, ?_⟩
 clear hba1_2
 (try simp only [pS])
 refine tkH 6 (oN 11 (Op.build 45 #[(0, oT 5), (1, oT 6), (2, oT 7), (3, oT 10)]) 45 "curve.go:41" #[jD 0, jD 1, jD 2, jD 5]) (pV x y 1 t) hSa1_2 (yields_build4 (by rfl) 45 _ _ _ _ rfl (numV x) (numV y) (numV 1) (numV t) rfl rfl rfl rfl _ (builtP4 _ _ _ _)) ?_
 (try simp only [pS])
 refine wpAnyH_ready (rs := [7]) (by kernel_rfl) (by simp) ?_
 refine AllReadyH.cons (o := qa1x7) rfl (fun K hK => ?_) (AllReadyH.nil)
 unfold qa1x7
 rw [if_pos (by rfl)]
 refine wp_store_mid 45 _ _ rfl g4 0 (p16 x y 1 t).toArray rfl rfl (thr16 hres _ _ _ _) (info16A _ _ _ _) (one16 _ _ _ _) ?_
 have hSa1_3 := hSa1_2.trans (Out.setCells (b := g4) (o := 0) (n := 16) wa1_2 (p16 x y 1 t) (Nat.le_refl _) (by rw [p16_len]; exact Nat.le_refl _))
 replace hres := hres.stored (p16 x y 1 t) (p16_same _ _ _ _ _ _ _ _)
 obtain ⟨wa1_3, hwa1_3⟩ : ∃ W, wa1_2.setCells g4 0 (p16 x y 1 t) = W := ⟨_, rfl⟩
 rw [hwa1_3] at hres
 rw [hwa1_3] at hSa1_3
 rw [show wa1_2.setCells g4 0 (p16 x y 1 t).toArray.toList = wa1_3 from hwa1_3]
 refine hK.out _ _ hSa1_3 (fun h => ?_)
 clear h hK K hwa1_3
 (try dsimp only [Act.put])
 refine wpAnyH_done (by kernel_rfl) ?_ _
 refine NoPanic.normal ?_
 have fin := (hbW.trans (hdrew.mono hbW.size)).trans (hSa1_3.below w4 (Nat.le_trans hbW.size hdrew.size))
 go_wp2
 exact bodyPost_ret (results_cell_mid Tryd.results28 _ _ g4 0 (p16 x y 1 t) _ rfl hres.range Tryd.underlying45 rfl (info16 _ _ _ _)) rfl ⟨rfl, fin⟩
theorem pat_any (x y : Nat) (hx : x < pF) (hy : y < pF) (w : World) : Calls Tryd.prog 28 #[numV x, numV y] w fun e w' => e = .returned (pV x y 1 (fmul x y)) ∧ Below w.heap.size w w' :=
 pat_raw x y (fmul x y) (fun W => times_any x y hx hy W) w
set_option maxRecDepth 20000 in
set_option maxHeartbeats 8000000 in
theorem quot_raw (a b c d o1 o2 o3 o4 : Nat)
 (k1 : ∀ W, Calls Tryd.prog 34 #[numV a, numV d] W fun e w' => e = .returned (numV o1) ∧ Below W.heap.size W w')
 (k2 : ∀ W, Calls Tryd.prog 34 #[numV c, numV b] W fun e w' => e = .returned (numV o2) ∧ Below W.heap.size W w')
 (k3 : ∀ W, Calls Tryd.prog 34 #[numV b, numV d] W fun e w' => e = .returned (numV o3) ∧ Below W.heap.size W w')
 (k4 : ∀ W, Calls Tryd.prog 34 #[numV a, numV c] W fun e w' => e = .returned (numV o4) ∧ Below W.heap.size W w')
 (w : World) : Calls Tryd.prog 70 #[numV a, numV b, numV c, numV d] w fun e w' => e = .returned (pV o1 o2 o3 o4) ∧ Below w.heap.size w w' := by
 have hzp := zeroP
 obtain ⟨V1, g4, eg4, hg4, bg4, ha⟩ : ∃ V g, w.alloc (.cells (c4 a).toArray 43) = V ∧ w.heap.size = g ∧ Below w.heap.size w V ∧ RW V g 0 (c4 a) := ⟨_, _, rfl, rfl, (Below.refl _ _).alloc (Nat.le_refl _) _, RW.fresh w _ _⟩
 obtain ⟨V2, g5, eg5, hg5, bg5, hb⟩ : ∃ V g, V1.alloc (.cells (c4 b).toArray 43) = V ∧ V1.heap.size = g ∧ Below V1.heap.size V1 V ∧ RW V g 0 (c4 b) := ⟨_, _, rfl, rfl, (Below.refl _ _).alloc (Nat.le_refl _) _, RW.fresh V1 _ _⟩
 obtain ⟨V3, g6, eg6, hg6, bg6, hc⟩ : ∃ V g, V2.alloc (.cells (c4 c).toArray 43) = V ∧ V2.heap.size = g ∧ Below V2.heap.size V2 V ∧ RW V g 0 (c4 c) := ⟨_, _, rfl, rfl, (Below.refl _ _).alloc (Nat.le_refl _) _, RW.fresh V2 _ _⟩
 obtain ⟨V4, g7, eg7, hg7, bg7, hd⟩ : ∃ V g, V3.alloc (.cells (c4 d).toArray 43) = V ∧ V3.heap.size = g ∧ Below V3.heap.size V3 V ∧ RW V g 0 (c4 d) := ⟨_, _, rfl, rfl, (Below.refl _ _).alloc (Nat.le_refl _) _, RW.fresh V3 _ _⟩
 obtain ⟨W, g8, e8, hg8, b8, hres⟩ := fresh16 V4
 have t1 : V1.heap.size = w.heap.size + 1 := by rw [← eg4]; simp
 have t2 : V2.heap.size = V1.heap.size + 1 := by rw [← eg5]; simp
 have t3 : V3.heap.size = V2.heap.size + 1 := by rw [← eg6]; simp
 have t4 : V4.heap.size = V3.heap.size + 1 := by rw [← eg7]; simp
 have HW : Hid (W = ((((w.alloc (.cells (c4 a).toArray 43)).alloc (.cells (c4 b).toArray 43)).alloc (.cells (c4 c).toArray 43)).alloc (.cells (c4 d).toArray 43)).alloc (.cells zP 45)) := Hid.mk' (by rw [← e8, ← eg7, ← eg6, ← eg5, ← eg4])
 have q4 : Hid (w.heap.size = g4) := Hid.mk' hg4
 have q5 : Hid (w.heap.size + 1 = g5) := Hid.mk' (by omega)
 have q6 : Hid (w.heap.size + 1 + 1 = g6) := Hid.mk' (by omega)
 have q7 : Hid (w.heap.size + 1 + 1 + 1 = g7) := Hid.mk' (by omega)
 have q8 : Hid (w.heap.size + 1 + 1 + 1 + 1 = g8) := Hid.mk' (by omega)
 replace ha := (((ha.still bg5).still bg6).still bg7).still b8
 replace hb := ((hb.still bg6).still bg7).still b8
 replace hc := (hc.still bg7).still b8
 replace hd := hd.still b8
 have hbW : Below w.heap.size w W := (((bg4.trans (bg5.mono (by omega))).trans (bg6.mono (by omega))).trans (bg7.mono (by omega))).trans (b8.mono (by omega))
 have w8 : w.heap.size ≤ g8 := by omega
 have n48 : g4 ≠ g8 := by omega
 have n58 : g5 ≠ g8 := by omega
 have n68 : g6 ≠ g8 := by omega
 have n78 : g7 ≠ g8 := by omega
 have l8 := hres.lt
 clear eg4 eg5 eg6 eg7 e8 hg4 hg5 hg6 hg7 hg8 bg4 bg5 bg6 bg7 b8 t1 t2 t3 t4 V1 V2 V3 V4
 rw [show numV a = .agg (c4 a).toArray from rfl, show numV b = .agg (c4 b).toArray from rfl, show numV c = .agg (c4 c).toArray from rfl, show numV d = .agg (c4 d).toArray from rfl]
 go_enter Tryd.func70, Tryd.ntmps70
 go_upto_region 1 with (fail)
 rw [← HW.out, q8.out, q7.out, q6.out, q5.out, q4.out]
 clear HW q4 q5 q6 q7 q8
 have hdrew : Below W.heap.size W W.drew := (Below.refl _ _).drew
 replace ha := ha.still hdrew
 replace hb := hb.still hdrew
 replace hc := hc.still hdrew
 replace hd := hd.still hdrew
 replace hres := hres.still hdrew
 refine wp_region_noPanic ?_
 replace l8 := Nat.lt_of_lt_of_le l8 hdrew.size
 refine wp_region_held_drew (S := fun w' => Out g8 0 16 W.drew w') (by kernel_rfl) (Out.refl _ _ _ _) (fun hS => ?_)
 generalize W.drew = Va2_ at *
 refine tkH 0 (oN 9 (Op.load 43 (oT 4)) 43 "curve.go:70" #[]) (numV a) hS (ldO ha n48 43 4 Tryd.underlying43 info4) ?_
 (try simp only [pS])
 refine tkH 1 (oN 10 (Op.load 43 (oT 7)) 43 "curve.go:70" #[]) (numV d) hS (ldO hd n78 43 7 Tryd.underlying43 info4) ?_
 (try simp only [pS])
 refine tkH 3 (oN 12 (Op.load 43 (oT 6)) 43 "curve.go:70" #[]) (numV c) hS (ldO hc n68 43 6 Tryd.underlying43 info4) ?_
 (try simp only [pS])
 refine tkH 4 (oN 13 (Op.load 43 (oT 5)) 43 "curve.go:70" #[]) (numV b) hS (ldO hb n58 43 5 Tryd.underlying43 info4) ?_
 (try simp only [pS])
 refine tkH 6 (oN 15 (Op.load 43 (oT 5)) 43 "curve.go:70" #[]) (numV b) hS (ldO hb n58 43 5 Tryd.underlying43 info4) ?_
 (try simp only [pS])
 refine tkH 7 (oN 16 (Op.load 43 (oT 7)) 43 "curve.go:70" #[]) (numV d) hS (ldO hd n78 43 7 Tryd.underlying43 info4) ?_
 (try simp only [pS])
 refine tkH 9 (oN 18 (Op.load 43 (oT 4)) 43 "curve.go:70" #[]) (numV a) hS (ldO ha n48 43 4 Tryd.underlying43 info4) ?_
 (try simp only [pS])
 refine tkH 10 (oN 19 (Op.load 43 (oT 6)) 43 "curve.go:70" #[]) (numV c) hS (ldO hc n68 43 6 Tryd.underlying43 info4) ?_
 (try simp only [pS])
 refine callH 2 (oN 11 (cF1 34 #[oT 9, oT 10] #[43, 43]) 43 "curve.go:70" #[jD 0, jD 1]) (k1 _) ?_
 (clear k1; rintro e wa2_1 ⟨rfl, hba2_1⟩)
 have hSa2_1 := hS.trans (Out.of_below hba2_1 l8)
 replace l8 := Nat.lt_of_lt_of_le l8 hba2_1.size
 replace hres := hres.still hba2_1
 refine ⟨_, rfl, hSa2_1, ?_⟩
 clear hba2_1
 (try simp only [pS])
 refine callH 5 (oN 14 (cF1 34 #[oT 12, oT 13] #[43, 43]) 43 "curve.go:70" #[jD 3, jD 4, jC 2]) (k2 _) ?_
 (clear k2; rintro e wa2_2 ⟨rfl, hba2_2⟩)
 have hSa2_2 := hSa2_1.trans (Out.of_below hba2_2 l8)
 replace l8 := Nat.lt_of_lt_of_le l8 hba2_2.size
 replace hres := hres.still hba2_2
 refine ⟨_, rfl, hSa2_2, ?_⟩
 clear hba2_2
 (try simp only [pS])
 refine callH 8 (oN 17 (cF1 34 #[oT 15, oT 16] #[43, 43]) 43 "curve.go:70" #[jD 6, jD 7, jC 5]) (k3 _) ?_
 (clear k3; rintro e wa2_3 ⟨rfl, hba2_3⟩)
 have hSa2_3 := hSa2_2.trans (Out.of_below hba2_3 l8)
 replace l8 := Nat.lt_of_lt_of_le l8 hba2_3.size
 replace hres := hres.still hba2_3
 refine ⟨_, rfl, hSa2_3, ?_⟩
 clear hba2_3
 (try simp only [pS])
 refine callH 11 (oN 20 (cF1 34 #[oT 18, oT 19] #[43, 43]) 43 "curve.go:70" #[jD 9, jD 10, jC 8]) (k4 _) ?_
 (clear k4; rintro e wa2_4 ⟨rfl, hba2_4⟩)
 have hSa2_4 := hSa2_3.trans (Out.of_below hba2_4 l8)
 replace l8 := Nat.lt_of_lt_of_le l8 hba2_4.size
 replace hres := hres.still hba2_4
 refine ⟨_, rfl, hSa2_4, ?_⟩
 clear hba2_4
 (try simp only [pS])
 refine tkH 12 (oN 21 (Op.build 45 #[(0, oT 11), (1, oT 14), (2, oT 17), (3, oT 20)]) 45 "curve.go:70" #[jD 2, jD 5, jD 8, jD 11]) (pV o1 o2 o3 o4) hSa2_4 (yields_build4 (by rfl) 45 _ _ _ _ rfl (numV o1) (numV o2) (numV o3) (numV o4) rfl rfl rfl rfl _ (builtP4 _ _ _ _)) ?_
 (try simp only [pS])
 refine wpAnyH_ready (rs := [13]) (by kernel_rfl) (by simp) ?_
 refine AllReadyH.cons (o := qa2x13) rfl (fun K hK => ?_) (AllReadyH.nil)
 unfold qa2x13
 rw [if_pos (by rfl)]
 refine wp_store_mid 45 _ _ rfl g8 0 (p16 o1 o2 o3 o4).toArray rfl rfl (thr16 hres _ _ _ _) (info16A _ _ _ _) (one16 _ _ _ _) ?_
 have hSa2_5 := hSa2_4.trans (Out.setCells (b := g8) (o := 0) (n := 16) wa2_4 (p16 o1 o2 o3 o4) (Nat.le_refl _) (by rw [p16_len]; exact Nat.le_refl _))
 replace hres := hres.stored (p16 o1 o2 o3 o4) (p16_same _ _ _ _ _ _ _ _)
 obtain ⟨wa2_5, hwa2_5⟩ : ∃ W, wa2_4.setCells g8 0 (p16 o1 o2 o3 o4) = W := ⟨_, rfl⟩
 rw [hwa2_5] at hres
 rw [hwa2_5] at hSa2_5
 rw [show wa2_4.setCells g8 0 (p16 o1 o2 o3 o4).toArray.toList = wa2_5 from hwa2_5]
 refine hK.out _ _ hSa2_5 (fun h => ?_)
 clear h hK K hwa2_5
 (try dsimp only [Act.put])
 refine wpAnyH_done (by kernel_rfl) ?_ _
 refine NoPanic.normal ?_
 have fin := (hbW.trans (hdrew.mono hbW.size)).trans (hSa2_5.below w8 (Nat.le_trans hbW.size hdrew.size))
 go_wp2
 exact bodyPost_ret (results_cell_mid Tryd.results70 _ _ g8 0 (p16 o1 o2 o3 o4) _ rfl hres.range Tryd.underlying45 rfl (info16 _ _ _ _)) rfl ⟨rfl, fin⟩
theorem quot_any (a b c d : Nat) (ha : a < pF) (hb : b < pF) (hc : c < pF) (hd : d < pF) (w : World) : Calls Tryd.prog 70 #[numV a, numV b, numV c, numV d] w fun e w' => e = .returned (pV (fmul a d) (fmul c b) (fmul b d) (fmul a c)) ∧ Below w.heap.size w w' :=
 quot_raw a b c d _ _ _ _ (fun W => times_any a d ha hd W) (fun W => times_any c b hc hb W) (fun W => times_any b d hb hd W) (fun W => times_any a c ha hc W) w
end Go.Proofs.YtdgkmloabificaaDoor
