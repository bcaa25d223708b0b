/- The walk of the law FieldNumbers in the model. -/
import Derived.Test.YtinigkpidhbgcaaNNum
import Derived.Test.YtinigkpidhbgcaaNOpen
import Derived.Test.YtinigkpidhbgcaaPNum
import Derived.Test.YtinigkpidhbgcaaSums
namespace Go.Proofs.Ytinigkpidhbgcaa
open Go.RowKit
/-- A struct's cells. -/
def o3 (k : Int) (v : Value) (n : Int) : List Value := [.int .i64 k, v, .int .i64 n]
theorem infoO (k n : Int) (v : Value) : (Try.prog.info? 55).map (·.size) = some (o3 k v n).length := by kernel_rfl
theorem infoOA (k n : Int) (v : Value) : (Try.prog.info? 55).map (·.size) = some (o3 k v n).toArray.size := by kernel_rfl
theorem oneO (k n : Int) (x : Option Addr) (l c : Nat) : (o3 k (.slice x l c) n).toArray.all (·.oneCell') = true := by simp [o3, Value.oneCell']
set_option maxRecDepth 20000 in
set_option maxHeartbeats 16000000 in
theorem fieldNumbers_good (v : Value) (bs : Nat → Nat) (hbs : ∀ j, bs j < 256) (xo : Option Addr) (cnt cap : Nat) (kd nn : Nat → Int) (sv : Nat → Value) (sn : Nat → Nat) (sb : Nat → Nat → Nat) (w : World) (hv : BytesIn w v 32 bs) (ho : OpsIn w xo cnt kd nn sv sn sb) :
    Calls Try.prog 8 #[v, .slice xo cnt cap] w fun e w' => e = .returned (.bool true) ∧ Below w.heap.size w w' := by
  have hz := zeroR
  have cl := lent_any v 32 bs w hv (by decide)
  have cF : ∀ x W, BytesIn W x 32 bs → Calls Try.prog 30 #[x] W fun e w' => e = .returned (.tuple #[.agg (c4 (ofB bs 32 % pF)).toArray, .int .i64 0]) ∧ Below W.heap.size W w' := fun x W h => from_any x 32 bs hbs W h
  have cG : ∀ W, Below w.heap.size w W → Calls Try.prog 32 #[v] W fun e w' => e = .returned (.agg (i16 (fromL bs)).toArray) ∧ Below W.heap.size W w' := fun W h => rfrom v bs hbs W (hv.still h)
  have hX0 : Rw (fromL bs) (ofB bs 32 % pF) := ((rep_from bs hbs).cast (by rw [Nat.mod_mod])).wide
  have hx0 : ofB bs 32 % pF < pF := Nat.mod_lt _ (by decide)
  have hkn := fun W => knows3_any W
  have c0 : ∀ W, Calls Try.prog 26 #[.int .u8 0] W fun e w' => ∃ s, e = .returned s ∧ NewB W w' s 32 (byt 0) ∧ Below W.heap.size W w' := fun W => small_any 0 (by decide) W
  obtain ⟨xv, kv, rfl, -⟩ := hv.src
  generalize ofB bs 32 % pF = x0 at *
  generalize fromL bs = L0 at *
  clear hv hbs
  go_enter Try.func8, Try.ntmps8
  go_upto_region 6 with (first
    | (go_at_call 10; refine cl.mono ?_; clear cl; rintro e w1 ⟨g, gc, rfl, hgc, hg, row1, hb1⟩)
    | (go_at_call 30; refine (cF _ _ (lent_bytes row1 hgc)).mono ?_; clear cF row1; rintro e w2 ⟨rfl, hb2⟩; (have hw2 := below_next hb1 hb2); clear hb1 hb2; (have z2 := fresh4' w2); (have t2 := fresh4t w2 x0); (obtain ⟨V2, hV2⟩ : ∃ V, V = (w2.alloc (.cells #[.int .u64 0, .int .u64 0, .int .u64 0, .int .u64 0] 46)).setCells w2.heap.size 0 (c4 x0) := ⟨_, rfl⟩); (have hn : RW V2 w2.heap.size 0 (c4 x0) := by rw [hV2]; exact z2.stored (c4 x0) rfl); (have bV2 : Below w2.heap.size w2 V2 := by rw [hV2]; exact below_setCells (Nat.le_refl _) _ _ _ ((Below.refl _ _).alloc (Nat.le_refl _) _)); (have HV2 := Hid.mk' hV2); clear hV2 z2; (obtain ⟨V3, g7, e7, hg7, b7, hz0⟩ := fresh4 V2); (have H7 : Hid (V2.alloc (.cells #[.int .u64 0, .int .u64 0, .int .u64 0, .int .u64 0] 46) = V3) := Hid.mk' e7); (have Hg7 : Hid (V2.heap.size = g7) := Hid.mk' hg7); (have n57 : w2.heap.size ≠ g7 := by (rw [← hg7]; exact Nat.ne_of_lt hn.lt)); (replace hn := hn.still b7); (have hw3 := below_next (below_next hw2 bV2) b7); (have g5w : w.heap.size ≤ w2.heap.size := hw2.size); clear e7 hg7 b7 bV2 hw2)
    | (with_reducible (refine id (?_ : wpList _ _ _ _ _ _)); refine wpList_store_mid rfl 46 _ _ rfl w2.heap.size 0 (c4 x0).toArray rfl rfl t2 (info4a x0) (one4 x0) ?_; rw [List.toList_toArray, ← HV2.out]; clear t2 HV2)
    | (go_at_call 32; rw [H7.out, Hg7.out]; refine (cG _ hw3).mono ?_; clear cG H7 Hg7; rintro e w4 ⟨rfl, hb4⟩; (replace hn := hn.still hb4); (replace hz0 := hz0.still hb4); (have hw4 := below_next hw3 hb4); clear hw3 hb4; (have z4 := freshR' w4); (have t4 := freshRt w4 L0); (obtain ⟨V4, hV4⟩ : ∃ V, V = (w4.alloc (.cells zI 52)).setCells w4.heap.size 0 (i16 L0) := ⟨_, rfl⟩); (have hm : RW V4 w4.heap.size 0 (i16 L0) := by rw [hV4]; exact z4.stored (i16 L0) (by rw [i16_len, i16_len])); (have bV4 : Below w4.heap.size w4 V4 := by rw [hV4]; exact below_setCells (Nat.le_refl _) _ _ _ ((Below.refl _ _).alloc (Nat.le_refl _) _)); (have HV4 := Hid.mk' hV4); clear hV4 z4; (have n58 : w2.heap.size ≠ w4.heap.size := Nat.ne_of_lt hn.lt); (have n78 : g7 ≠ w4.heap.size := Nat.ne_of_lt hz0.lt); (replace hn := hn.still bV4); (replace hz0 := hz0.still bV4); (have hwV := below_next hw4 bV4); (have g8w : w.heap.size ≤ w4.heap.size := hw4.size); clear bV4 hw4)
    | (with_reducible (refine id (?_ : wpList _ _ _ _ _ _)); refine wpList_store_mid rfl 52 _ _ rfl w4.heap.size 0 (i16 L0).toArray rfl rfl t4 (infoIA L0) (oneI L0) ?_; rw [List.toList_toArray, ← HV4.out]; clear t4 HV4))
  dsimp only [Act.put]
  generalize w2.heap.size = g5 at *
  generalize w4.heap.size = g8 at *
  clear hgc hg
  go_wp2
  go_loopw [9, 10, 11, 12] (fun i _ _ _ wr => ∃ (k : Nat) (x : Nat) (L : Nat → Int), k ≤ cnt ∧ k ≤ 40 ∧ i = .int .i64 (k : Int) ∧ x < pF ∧ Rw L x ∧ RW wr g5 0 (c4 x) ∧ RW wr g7 0 (c4 0) ∧ RW wr g8 0 (i16 L) ∧ Below w.heap.size w wr) (fun i _ _ _ _ => 40 - (intOf i).toNat)
  case atStart => exact ⟨0, x0, L0, Nat.zero_le _, Nat.zero_le _, by go_num, hx0, hX0, hn, hz0, hm, hwV⟩
  case round =>
    obtain ⟨k, x, L, hk1, hk2, rfl, hx, hX, kn, kz, km, kb⟩ := hrel
    clear hn hz0 hm hwV hx0 hX0
    by_cases hlt : k < cnt ∧ k < 40
    · obtain ⟨h1, h2⟩ := hlt
      have h1' : (k : Int) < (cnt : Int) := by omega
      have h2' : (k : Int) < 40 := by omega
      obtain ⟨lb, lo, hxo, hlb, hcells⟩ := ho.cells k h1
      subst hxo
      have hby := ho.bytes k h1
      have hlow := ho.low k h1
      have hnum := ho.num k h1
      have hrange : wr.rangeAt lb (lo + k * 3) (o3 (kd k) (sv k) (nn k)) := fun j v hv => (kb.cell (p := ⟨lb, lo + k * 3 + j, none⟩) hlb).trans (hcells j v hv)
      obtain ⟨xs, cs, hsv, -, -, -⟩ := (ho.bytes k h1).src
      rw [hsv] at hby hrange
      clear hcells hsv
      generalize kd k = kk at *
      generalize nn k = nk at *
      generalize sn k = ns at *
      generalize sb k = bb at *
      have cS : ∀ W, Calls Try.prog 33 #[.int .i64 nk] W fun e w' => e = .returned (.agg (c4 (zN nk)).toArray) ∧ Below W.heap.size W w' := fun W => fsmall_int nk hnum.1 hnum.2 W
      have cR : ∀ W, Calls Try.prog 34 #[.int .i64 nk] W fun e w' => ∃ R, e = .returned (.agg (i16 R).toArray) ∧ Rep R (zN nk) ∧ Below W.heap.size W w' := fun W => rsmall_int nk hnum.1 hnum.2 W
      obtain ⟨zs, hzs⟩ : ∃ z, z = zN nk := ⟨_, rfl⟩
      have hzl : zs < pF := by rw [hzs]; exact zN_lt nk
      rw [← hzs] at cS cR
      clear hzs hnum
      obtain ⟨g10, hg10⟩ : ∃ g, g = wr.heap.size := ⟨_, rfl⟩
      have z10 := RW.fresh wr (o3 0 (.slice none 0 0) 0) 55
      obtain ⟨V10, hV10⟩ : ∃ V, V = (wr.alloc (.cells (o3 0 (.slice none 0 0) 0).toArray 55)).setCells wr.heap.size 0 (o3 kk (.slice xs ns cs) nk) := ⟨_, rfl⟩
      have hO : RW V10 g10 0 (o3 kk (.slice xs ns cs) nk) := by rw [hV10, hg10]; exact z10.stored _ rfl
      have t10 : (wr.alloc (.cells #[.int .i64 0, .slice none 0 0, .int .i64 0] 55)).there g10 0 (o3 kk (.slice xs ns cs) nk).toArray.size := by rw [hg10]; exact z10.there
      have b10 : Below wr.heap.size wr V10 := by rw [hV10]; exact below_setCells (Nat.le_refl _) _ _ _ ((Below.refl _ _).alloc (Nat.le_refl _) _)
      rw [← hg10] at hV10
      have HV10 : Hid (V10 = (wr.alloc (.cells #[.int .i64 0, .slice none 0 0, .int .i64 0] 55)).setCells g10 0 (o3 kk (.slice xs ns cs) nk)) := Hid.mk' hV10
      have Hg10 := Hid.mk' hg10
      have m510 : g5 ≠ g10 := by rw [hg10]; exact Nat.ne_of_lt kn.lt
      have m710 : g7 ≠ g10 := by rw [hg10]; exact Nat.ne_of_lt kz.lt
      have m810 : g8 ≠ g10 := by rw [hg10]; exact Nat.ne_of_lt km.lt
      have w10 : w.heap.size ≤ g10 := by rw [hg10]; exact kb.size
      clear hV10 z10 hg10
      replace kn := kn.still b10
      replace kz := kz.still b10
      replace km := km.still b10
      replace kb := below_next kb b10
      clear b10
      have o0 : V10.cell? ⟨g10, 0, none⟩ = some (.int .i64 kk) := hO.range 0 _ rfl
      have o1 : V10.cell? ⟨g10, 1, none⟩ = some (.slice xs ns cs) := hO.range 1 _ rfl
      have o2 : V10.cell? ⟨g10, 2, none⟩ = some (.int .i64 nk) := hO.range 2 _ rfl
      go_upto_region 12 with (first
        | (refine wpList_load_mid rfl 55 _ rfl lb (lo + k * 3) rfl (o3 kk (.slice xs ns cs) nk) _ hrange Try.underlying55 rfl (infoO _ _ _) ?_; clear hrange)
        | (with_reducible (refine id (?_ : wpList _ _ _ _ _ _)); rw [← Hg10.out]; refine wpList_store_mid rfl 55 _ _ rfl g10 0 (o3 kk (.slice xs ns cs) nk).toArray rfl rfl t10 (infoOA _ _ _) (oneO _ _ _ _ _) ?_; rw [List.toList_toArray, ← HV10.out]; clear t10 HV10 Hg10)
        | (go_at_call 33; refine (cS _).mono ?_; clear cS o0 o1 o2; rintro e w11 ⟨rfl, hb11⟩; (replace kn := kn.still hb11); (replace kz := kz.still hb11); (replace km := km.still hb11); (replace hO := hO.still hb11); (replace kb := below_next kb hb11); clear hb11; (have zz := fresh4' w11); (have tt := fresh4t w11 zs); (obtain ⟨V11, hV⟩ : ∃ V, V = (w11.alloc (.cells #[.int .u64 0, .int .u64 0, .int .u64 0, .int .u64 0] 46)).setCells w11.heap.size 0 (c4 zs) := ⟨_, rfl⟩); (have k11 : RW V11 w11.heap.size 0 (c4 zs) := by rw [hV]; exact zz.stored (c4 zs) rfl); (have bV : Below w11.heap.size w11 V11 := by rw [hV]; exact below_setCells (Nat.le_refl _) _ _ _ ((Below.refl _ _).alloc (Nat.le_refl _) _)); (have HV := Hid.mk' hV); clear hV zz; (have l5 := kn.lt); (have l7 := kz.lt); (have l8 := km.lt); (have l10 := hO.lt); (replace kn := kn.still bV); (replace kz := kz.still bV); (replace km := km.still bV); (replace hO := hO.still bV); (replace kb := below_next kb bV); clear bV; (have m511 : g5 ≠ w11.heap.size := Nat.ne_of_lt l5); (have m711 : g7 ≠ w11.heap.size := Nat.ne_of_lt l7); (have m811 : g8 ≠ w11.heap.size := Nat.ne_of_lt l8); (have m1011 : g10 ≠ w11.heap.size := Nat.ne_of_lt l10); (have w11l : w.heap.size ≤ w11.heap.size := Nat.le_trans w10 (Nat.le_of_lt l10)); clear l5 l7 l8 l10; (have o0 : V11.cell? ⟨g10, 0, none⟩ = some (.int .i64 kk) := hO.range 0 _ rfl); (have o1 : V11.cell? ⟨g10, 1, none⟩ = some (.slice xs ns cs) := hO.range 1 _ rfl); (have o2 : V11.cell? ⟨g10, 2, none⟩ = some (.int .i64 nk) := hO.range 2 _ rfl); (have tA := tt); (have HA := HV); clear tt HV)
        | (with_reducible (refine id (?_ : wpList _ _ _ _ _ _)); refine wpList_store_mid rfl 46 _ _ rfl w11.heap.size 0 (c4 zs).toArray rfl rfl tA (info4a zs) (one4 zs) ?_; rw [List.toList_toArray, ← HA.out]; clear tA HA)
        | (go_at_call 34; refine (cR _).mono ?_; clear cR o0 o1 o2; rintro e w12 ⟨R, rfl, hR, hb12⟩; (replace kn := kn.still hb12); (replace kz := kz.still hb12); (replace km := km.still hb12); (replace hO := hO.still hb12); (replace k11 := k11.still hb12); (replace kb := below_next kb hb12); clear hb12; (have l11 := k11.lt);(have zz := freshR' w12); (have tt := freshRt w12 R); (obtain ⟨V12, hV⟩ : ∃ V, V = (w12.alloc (.cells zI 52)).setCells w12.heap.size 0 (i16 R) := ⟨_, rfl⟩); (have k12 : RW V12 w12.heap.size 0 (i16 R) := by rw [hV]; exact zz.stored (i16 R) (by rw [i16_len, i16_len])); (have bV : Below w12.heap.size w12 V12 := by rw [hV]; exact below_setCells (Nat.le_refl _) _ _ _ ((Below.refl _ _).alloc (Nat.le_refl _) _)); (have HV := Hid.mk' hV); clear hV zz; (have l5 := kn.lt); (have l7 := kz.lt); (have l8 := km.lt); (have l10 := hO.lt); (replace kn := kn.still bV); (replace kz := kz.still bV); (replace km := km.still bV); (replace hO := hO.still bV); (replace k11 := k11.still bV); (replace kb := below_next kb bV); clear bV; (have m512 : g5 ≠ w12.heap.size := Nat.ne_of_lt l5); (have m712 : g7 ≠ w12.heap.size := Nat.ne_of_lt l7); (have m812 : g8 ≠ w12.heap.size := Nat.ne_of_lt l8); (have m1012 : g10 ≠ w12.heap.size := Nat.ne_of_lt l10); (have w12l : w.heap.size ≤ w12.heap.size := Nat.le_trans w10 (Nat.le_of_lt l10)); (have m1112 : w11.heap.size ≠ w12.heap.size := Nat.ne_of_lt l11); clear l5 l7 l8 l10 l11; (have o0 : V12.cell? ⟨g10, 0, none⟩ = some (.int .i64 kk) := hO.range 0 _ rfl); (have o1 : V12.cell? ⟨g10, 1, none⟩ = some (.slice xs ns cs) := hO.range 1 _ rfl); (have o2 : V12.cell? ⟨g10, 2, none⟩ = some (.int .i64 nk) := hO.range 2 _ rfl); (have tB := tt); (have HB := HV); clear tt HV)
        | (with_reducible (refine id (?_ : wpList _ _ _ _ _ _)); refine wpList_store_mid rfl 52 _ _ rfl w12.heap.size 0 (i16 R).toArray rfl rfl tB (infoIA R) (oneI R) ?_; rw [List.toList_toArray, ← HB.out]; clear tB HB))
      dsimp only [Act.put]
      generalize w11.heap.size = g11 at *
      generalize w12.heap.size = g12 at *
      by_cases hlen : ns = 32
      · subst hlen
        have cB : ∀ W, BytesIn W (.slice xs 32 cs) 32 bb → Calls Try.prog 30 #[.slice xs 32 cs] W fun e w' => e = .returned (.tuple #[.agg (c4 (ofB bb 32 % pF)).toArray, .int .i64 0]) ∧ Below W.heap.size W w' := fun W h => from_any _ 32 bb hlow W h
        have cC : ∀ W, BytesIn W (.slice xs 32 cs) 32 bb → Calls Try.prog 32 #[.slice xs 32 cs] W fun e w' => e = .returned (.agg (i16 (fromL bb)).toArray) ∧ Below W.heap.size W w' := fun W h => rfrom _ bb hlow W h
        have hMY : Rep (fromL bb) (ofB bb 32 % pF) := (rep_from bb hlow).cast (by rw [Nat.mod_mod])
        have hY : ofB bb 32 % pF < pF := Nat.mod_lt _ (by decide)
        generalize ofB bb 32 % pF = Y at *
        generalize fromL bb = M at *
        clear hR hzl
        go_upto_region 15 with (first
          | (go_at_call 30; refine (cB _ (hby.still kb)).mono ?_; clear cB o0 o1 o2; rintro e w13 ⟨rfl, hb13⟩; (replace kn := kn.still hb13); (replace kz := kz.still hb13); (replace km := km.still hb13); (replace hO := hO.still hb13); (replace k11 := k11.still hb13); (replace k12 := k12.still hb13); (replace kb := below_next kb hb13); clear hb13; (have tA : w13.there g11 0 (c4 Y).toArray.size := k11.there); (obtain ⟨V13, hV⟩ : ∃ V, V = w13.setCells g11 0 (c4 Y) := ⟨_, rfl⟩); (replace k11 := k11.stored (c4 Y) rfl); (replace kn := kn.far g11 0 (c4 Y) (.inl m511)); (replace kz := kz.far g11 0 (c4 Y) (.inl m711)); (replace km := km.far g11 0 (c4 Y) (.inl m811)); (replace hO := hO.far g11 0 (c4 Y) (.inl m1011)); (replace k12 := k12.far g11 0 (c4 Y) (.inl m1112.symm)); (replace kb := below_setCells w11l (c4 Y) 0 _ kb); rw [← hV] at k11 kn kz km hO k12 kb; (have HA := Hid.mk' hV); clear hV; (have o0 : V13.cell? ⟨g10, 0, none⟩ = some (.int .i64 kk) := hO.range 0 _ rfl); (have o1 : V13.cell? ⟨g10, 1, none⟩ = some (.slice xs 32 cs) := hO.range 1 _ rfl); (have o2 : V13.cell? ⟨g10, 2, none⟩ = some (.int .i64 nk) := hO.range 2 _ rfl))
          | (with_reducible (refine id (?_ : wpList _ _ _ _ _ _)); refine wpList_store_mid rfl 46 _ _ rfl g11 0 (c4 Y).toArray rfl rfl tA (info4a Y) (one4 Y) ?_; rw [List.toList_toArray, ← HA.out]; clear tA HA)
          | (go_at_call 32; refine (cC _ (hby.still kb)).mono ?_; clear cC o0 o1 o2; rintro e w14 ⟨rfl, hb14⟩; (replace kn := kn.still hb14); (replace kz := kz.still hb14); (replace km := km.still hb14); (replace hO := hO.still hb14); (replace k11 := k11.still hb14); (replace k12 := k12.still hb14); (replace kb := below_next kb hb14); clear hb14; (have tB : w14.there g12 0 (i16 M).toArray.size := (by have := k12.there; rw [i16_len] at this; rw [List.size_toArray, i16_len]; exact this)); (obtain ⟨V14, hV⟩ : ∃ V, V = w14.setCells g12 0 (i16 M) := ⟨_, rfl⟩); (replace k12 := k12.stored (i16 M) (by rw [i16_len, i16_len])); (replace kn := kn.far g12 0 (i16 M) (.inl m512)); (replace kz := kz.far g12 0 (i16 M) (.inl m712)); (replace km := km.far g12 0 (i16 M) (.inl m812)); (replace hO := hO.far g12 0 (i16 M) (.inl m1012)); (replace k11 := k11.far g12 0 (i16 M) (.inl m1112)); (replace kb := below_setCells w12l (i16 M) 0 _ kb); rw [← hV] at k12 kn kz km hO k11 kb; (have HB := Hid.mk' hV); clear hV; (have o0 : V14.cell? ⟨g10, 0, none⟩ = some (.int .i64 kk) := hO.range 0 _ rfl); (have o1 : V14.cell? ⟨g10, 1, none⟩ = some (.slice xs 32 cs) := hO.range 1 _ rfl); (have o2 : V14.cell? ⟨g10, 2, none⟩ = some (.int .i64 nk) := hO.range 2 _ rfl))
          | (with_reducible (refine id (?_ : wpList _ _ _ _ _ _)); refine wpList_store_mid rfl 52 _ _ rfl g12 0 (i16 M).toArray rfl rfl tB (infoIA M) (oneI M) ?_; rw [List.toList_toArray, ← HB.out]; clear tB HB))
        (try dsimp only [Act.put])
        clear hby hlow o1 o2
        by_cases hk0 : kk = 0
        · subst hk0
          have cp : ∀ W, Calls Try.prog 35 #[.agg (c4 x).toArray, .agg (c4 Y).toArray] W fun e w' => e = .returned (.agg (c4 (fadd x Y)).toArray) ∧ Below W.heap.size W w' := fun W => plus_any x Y hx hY W
          have cq : ∀ W, Calls Try.prog 36 #[.agg (i16 L).toArray, .agg (i16 M).toArray] W fun e w' => e = .returned (.agg (i16 (plusL L M)).toArray) ∧ Below W.heap.size W w' := fun W => rplus_any L M hX.far hMY.far W
          have hX2 : Rw (plusL L M) (fadd x Y) := rw_plus hX hMY
          have hx2 : fadd x Y < pF := fadd_lt x Y
          obtain ⟨x2, hx2e⟩ : ∃ x2, x2 = fadd x Y := ⟨_, rfl⟩
          rw [← hx2e] at cp hx2 hX2
          obtain ⟨L2, hL2e⟩ : ∃ L2, L2 = plusL L M := ⟨_, rfl⟩
          rw [← hL2e] at cq hX2
          clear hL2e
          clear hx2e hMY hY hX hx
          go_wp2_with (first
            | (refine wpList_load_mid rfl 46 _ rfl g5 0 rfl (c4 x) _ kn.range Try.underlying46 rfl info4 ?_)
            | (refine wpList_load_mid rfl 46 _ rfl g11 0 rfl (c4 Y) _ k11.range Try.underlying46 rfl info4 ?_)
            | (refine wpList_load_mid rfl 52 _ rfl g8 0 rfl (i16 L) _ km.range Try.underlying52 rfl (infoI _) ?_)
            | (refine wpList_load_mid rfl 52 _ rfl g12 0 rfl (i16 M) _ k12.range Try.underlying52 rfl (infoI _) ?_)
            | (go_at_call 35; refine (cp _).mono ?_; clear cp; rintro e w20 ⟨rfl, hb20⟩; clear o0; (replace kn := kn.still hb20); (replace kz := kz.still hb20); (replace km := km.still hb20); (replace k11 := k11.still hb20); (replace k12 := k12.still hb20); (replace kb := below_next kb hb20); clear hb20; (have t5 : w20.there g5 0 (c4 x2).toArray.size := kn.there); (obtain ⟨V20, hV⟩ : ∃ V, V = w20.setCells g5 0 (c4 x2) := ⟨_, rfl⟩); (replace kn := kn.stored (c4 x2) rfl); (replace kz := kz.far g5 0 (c4 x2) (.inl n57.symm)); (replace km := km.far g5 0 (c4 x2) (.inl n58.symm)); (replace k11 := k11.far g5 0 (c4 x2) (.inl m511.symm)); (replace k12 := k12.far g5 0 (c4 x2) (.inl m512.symm)); (replace kb := below_setCells g5w (c4 x2) 0 _ kb); rw [← hV] at kn kz km k11 k12 kb; (have H5 := Hid.mk' hV); clear hV)
            | (with_reducible (refine id (?_ : wpList _ _ _ _ _ _)); refine wpList_store_mid rfl 46 _ _ rfl g5 0 (c4 x2).toArray rfl rfl t5 (info4a x2) (one4 x2) ?_; rw [List.toList_toArray, ← H5.out]; clear t5 H5)
            | (go_at_call 36; refine (cq _).mono ?_; clear cq; rintro e w21 ⟨rfl, hb21⟩; (replace kn := kn.still hb21); (replace kz := kz.still hb21); (replace km := km.still hb21); (replace kb := below_next kb hb21); clear hb21; (have t8 : w21.there g8 0 (i16 L2).toArray.size := (by have := km.there; rw [i16_len] at this; rw [List.size_toArray, i16_len]; exact this)); (obtain ⟨V21, hV⟩ : ∃ V, V = w21.setCells g8 0 (i16 L2) := ⟨_, rfl⟩); (replace km := km.stored (i16 L2) (by rw [i16_len, i16_len])); (replace kn := kn.far g8 0 (i16 L2) (.inl n58)); (replace kz := kz.far g8 0 (i16 L2) (.inl n78)); (replace kb := below_setCells g8w (i16 L2) 0 _ kb); rw [← hV] at km kn kz kb; (have H8 := Hid.mk' hV); clear hV)
            | (with_reducible (refine id (?_ : wpList _ _ _ _ _ _)); refine wpList_store_mid rfl 52 _ _ rfl g8 0 (i16 L2).toArray rfl rfl t8 (infoIA L2) (oneI L2) ?_; rw [List.toList_toArray, ← H8.out]; clear t8 H8))
          go_roundw
          case rel => exact ⟨k + 1, x2, L2, by omega, by omega, by go_num, hx2, hX2, kn, kz, km, kb⟩
          case measure => simp [intOf]; omega
        · have hj0 : ¬(kk = 0) := hk0
          by_cases hk1 : kk = 1
          · subst hk1
            have cp : ∀ W, Calls Try.prog 37 #[.agg (c4 x).toArray, .agg (c4 Y).toArray] W fun e w' => e = .returned (.agg (c4 (fsub x Y)).toArray) ∧ Below W.heap.size W w' := fun W => minus_any x Y hx hY W
            have cq : ∀ W, Calls Try.prog 38 #[.agg (i16 L).toArray, .agg (i16 M).toArray] W fun e w' => e = .returned (.agg (i16 (minusL L M)).toArray) ∧ Below W.heap.size W w' := fun W => rminus_any L M hX.far hMY.far W
            have hX2 : Rw (minusL L M) (fsub x Y) := rw_minus hX hMY hY
            have hx2 : fsub x Y < pF := fsub_lt x Y
            obtain ⟨x2, hx2e⟩ : ∃ x2, x2 = fsub x Y := ⟨_, rfl⟩
            rw [← hx2e] at cp hx2 hX2
            obtain ⟨L2, hL2e⟩ : ∃ L2, L2 = minusL L M := ⟨_, rfl⟩
            rw [← hL2e] at cq hX2
            clear hL2e
            clear hx2e hMY hY hX hx
            go_wp2_with (first
              | (refine wpList_load_mid rfl 46 _ rfl g5 0 rfl (c4 x) _ kn.range Try.underlying46 rfl info4 ?_)
              | (refine wpList_load_mid rfl 46 _ rfl g11 0 rfl (c4 Y) _ k11.range Try.underlying46 rfl info4 ?_)
              | (refine wpList_load_mid rfl 52 _ rfl g8 0 rfl (i16 L) _ km.range Try.underlying52 rfl (infoI _) ?_)
              | (refine wpList_load_mid rfl 52 _ rfl g12 0 rfl (i16 M) _ k12.range Try.underlying52 rfl (infoI _) ?_)
              | (go_at_call 37; refine (cp _).mono ?_; clear cp; rintro e w20 ⟨rfl, hb20⟩; clear o0; (replace kn := kn.still hb20); (replace kz := kz.still hb20); (replace km := km.still hb20); (replace k11 := k11.still hb20); (replace k12 := k12.still hb20); (replace kb := below_next kb hb20); clear hb20; (have t5 : w20.there g5 0 (c4 x2).toArray.size := kn.there); (obtain ⟨V20, hV⟩ : ∃ V, V = w20.setCells g5 0 (c4 x2) := ⟨_, rfl⟩); (replace kn := kn.stored (c4 x2) rfl); (replace kz := kz.far g5 0 (c4 x2) (.inl n57.symm)); (replace km := km.far g5 0 (c4 x2) (.inl n58.symm)); (replace k11 := k11.far g5 0 (c4 x2) (.inl m511.symm)); (replace k12 := k12.far g5 0 (c4 x2) (.inl m512.symm)); (replace kb := below_setCells g5w (c4 x2) 0 _ kb); rw [← hV] at kn kz km k11 k12 kb; (have H5 := Hid.mk' hV); clear hV)
              | (with_reducible (refine id (?_ : wpList _ _ _ _ _ _)); refine wpList_store_mid rfl 46 _ _ rfl g5 0 (c4 x2).toArray rfl rfl t5 (info4a x2) (one4 x2) ?_; rw [List.toList_toArray, ← H5.out]; clear t5 H5)
              | (go_at_call 38; refine (cq _).mono ?_; clear cq; rintro e w21 ⟨rfl, hb21⟩; (replace kn := kn.still hb21); (replace kz := kz.still hb21); (replace km := km.still hb21); (replace kb := below_next kb hb21); clear hb21; (have t8 : w21.there g8 0 (i16 L2).toArray.size := (by have := km.there; rw [i16_len] at this; rw [List.size_toArray, i16_len]; exact this)); (obtain ⟨V21, hV⟩ : ∃ V, V = w21.setCells g8 0 (i16 L2) := ⟨_, rfl⟩); (replace km := km.stored (i16 L2) (by rw [i16_len, i16_len])); (replace kn := kn.far g8 0 (i16 L2) (.inl n58)); (replace kz := kz.far g8 0 (i16 L2) (.inl n78)); (replace kb := below_setCells g8w (i16 L2) 0 _ kb); rw [← hV] at km kn kz kb; (have H8 := Hid.mk' hV); clear hV)
              | (with_reducible (refine id (?_ : wpList _ _ _ _ _ _)); refine wpList_store_mid rfl 52 _ _ rfl g8 0 (i16 L2).toArray rfl rfl t8 (infoIA L2) (oneI L2) ?_; rw [List.toList_toArray, ← H8.out]; clear t8 H8))
            go_roundw
            case rel => exact ⟨k + 1, x2, L2, by omega, by omega, by go_num, hx2, hX2, kn, kz, km, kb⟩
            case measure => simp [intOf]; omega
          · have hj1 : ¬(kk = 1) := hk1
            by_cases hk2 : kk = 2
            · subst hk2
              have cp : ∀ W, Calls Try.prog 39 #[.agg (c4 x).toArray, .agg (c4 Y).toArray] W fun e w' => e = .returned (.agg (c4 (fmul x Y)).toArray) ∧ Below W.heap.size W w' := fun W => times_any x Y hx hY W
              have cq : ∀ W, Calls Try.prog 40 #[.agg (i16 L).toArray, .agg (i16 M).toArray] W fun e w' => e = .returned (.agg (i16 (timesL L M)).toArray) ∧ Below W.heap.size W w' := fun W => rtimes_any L M hX.bd hMY.bd W
              have hX2 : Rw (timesL L M) (fmul x Y) := (rw_times hX hMY.wide).wide
              have hx2 : fmul x Y < pF := fmul_lt x Y
              obtain ⟨x2, hx2e⟩ : ∃ x2, x2 = fmul x Y := ⟨_, rfl⟩
              rw [← hx2e] at cp hx2 hX2
              obtain ⟨L2, hL2e⟩ : ∃ L2, L2 = timesL L M := ⟨_, rfl⟩
              rw [← hL2e] at cq hX2
              clear hL2e
              clear hx2e hMY hY hX hx
              go_wp2_with (first
                | (refine wpList_load_mid rfl 46 _ rfl g5 0 rfl (c4 x) _ kn.range Try.underlying46 rfl info4 ?_)
                | (refine wpList_load_mid rfl 46 _ rfl g11 0 rfl (c4 Y) _ k11.range Try.underlying46 rfl info4 ?_)
                | (refine wpList_load_mid rfl 52 _ rfl g8 0 rfl (i16 L) _ km.range Try.underlying52 rfl (infoI _) ?_)
                | (refine wpList_load_mid rfl 52 _ rfl g12 0 rfl (i16 M) _ k12.range Try.underlying52 rfl (infoI _) ?_)
                | (go_at_call 39; refine (cp _).mono ?_; clear cp; rintro e w20 ⟨rfl, hb20⟩; clear o0; (replace kn := kn.still hb20); (replace kz := kz.still hb20); (replace km := km.still hb20); (replace k11 := k11.still hb20); (replace k12 := k12.still hb20); (replace kb := below_next kb hb20); clear hb20; (have t5 : w20.there g5 0 (c4 x2).toArray.size := kn.there); (obtain ⟨V20, hV⟩ : ∃ V, V = w20.setCells g5 0 (c4 x2) := ⟨_, rfl⟩); (replace kn := kn.stored (c4 x2) rfl); (replace kz := kz.far g5 0 (c4 x2) (.inl n57.symm)); (replace km := km.far g5 0 (c4 x2) (.inl n58.symm)); (replace k11 := k11.far g5 0 (c4 x2) (.inl m511.symm)); (replace k12 := k12.far g5 0 (c4 x2) (.inl m512.symm)); (replace kb := below_setCells g5w (c4 x2) 0 _ kb); rw [← hV] at kn kz km k11 k12 kb; (have H5 := Hid.mk' hV); clear hV)
                | (with_reducible (refine id (?_ : wpList _ _ _ _ _ _)); refine wpList_store_mid rfl 46 _ _ rfl g5 0 (c4 x2).toArray rfl rfl t5 (info4a x2) (one4 x2) ?_; rw [List.toList_toArray, ← H5.out]; clear t5 H5)
                | (go_at_call 40; refine (cq _).mono ?_; clear cq; rintro e w21 ⟨rfl, hb21⟩; (replace kn := kn.still hb21); (replace kz := kz.still hb21); (replace km := km.still hb21); (replace kb := below_next kb hb21); clear hb21; (have t8 : w21.there g8 0 (i16 L2).toArray.size := (by have := km.there; rw [i16_len] at this; rw [List.size_toArray, i16_len]; exact this)); (obtain ⟨V21, hV⟩ : ∃ V, V = w21.setCells g8 0 (i16 L2) := ⟨_, rfl⟩); (replace km := km.stored (i16 L2) (by rw [i16_len, i16_len])); (replace kn := kn.far g8 0 (i16 L2) (.inl n58)); (replace kz := kz.far g8 0 (i16 L2) (.inl n78)); (replace kb := below_setCells g8w (i16 L2) 0 _ kb); rw [← hV] at km kn kz kb; (have H8 := Hid.mk' hV); clear hV)
                | (with_reducible (refine id (?_ : wpList _ _ _ _ _ _)); refine wpList_store_mid rfl 52 _ _ rfl g8 0 (i16 L2).toArray rfl rfl t8 (infoIA L2) (oneI L2) ?_; rw [List.toList_toArray, ← H8.out]; clear t8 H8))
              go_roundw
              case rel => exact ⟨k + 1, x2, L2, by omega, by omega, by go_num, hx2, hX2, kn, kz, km, kb⟩
              case measure => simp [intOf]; omega
            · have hj2 : ¬(kk = 2) := hk2
              have cp : ∀ W, Calls Try.prog 41 #[.agg (c4 x).toArray] W fun e w' => e = .returned (.agg (c4 (finv x)).toArray) ∧ Below W.heap.size W w' := fun W => inverse_any x hx W
              have cq : ∀ W, Calls Try.prog 42 #[.agg (i16 L).toArray] W fun e w' => ∃ R, e = .returned (.agg (i16 R).toArray) ∧ Rw R (finv x) ∧ Below W.heap.size W w' := fun W => rinverse_wide L x hX W
              have hx2 : finv x < pF := finv_lt x
              obtain ⟨x2, hx2e⟩ : ∃ x2, x2 = finv x := ⟨_, rfl⟩
              rw [← hx2e] at cp hx2 cq
              clear hx2e hMY hY hX hx
              go_wp2_with (first
                | (refine wpList_load_mid rfl 46 _ rfl g5 0 rfl (c4 x) _ kn.range Try.underlying46 rfl info4 ?_)
                | (refine wpList_load_mid rfl 52 _ rfl g8 0 rfl (i16 L) _ km.range Try.underlying52 rfl (infoI _) ?_)
                | (go_at_call 41; refine (cp _).mono ?_; clear cp; rintro e w20 ⟨rfl, hb20⟩; clear o0; (replace kn := kn.still hb20); (replace kz := kz.still hb20); (replace km := km.still hb20); (replace k11 := k11.still hb20); (replace k12 := k12.still hb20); (replace kb := below_next kb hb20); clear hb20; (have t5 : w20.there g5 0 (c4 x2).toArray.size := kn.there); (obtain ⟨V20, hV⟩ : ∃ V, V = w20.setCells g5 0 (c4 x2) := ⟨_, rfl⟩); (replace kn := kn.stored (c4 x2) rfl); (replace kz := kz.far g5 0 (c4 x2) (.inl n57.symm)); (replace km := km.far g5 0 (c4 x2) (.inl n58.symm)); (replace k11 := k11.far g5 0 (c4 x2) (.inl m511.symm)); (replace k12 := k12.far g5 0 (c4 x2) (.inl m512.symm)); (replace kb := below_setCells g5w (c4 x2) 0 _ kb); rw [← hV] at kn kz km k11 k12 kb; (have H5 := Hid.mk' hV); clear hV)
                | (with_reducible (refine id (?_ : wpList _ _ _ _ _ _)); refine wpList_store_mid rfl 46 _ _ rfl g5 0 (c4 x2).toArray rfl rfl t5 (info4a x2) (one4 x2) ?_; rw [List.toList_toArray, ← H5.out]; clear t5 H5)
                | (go_at_call 42; refine (cq _).mono ?_; clear cq; rintro e w21 ⟨L2, rfl, hX2, hb21⟩; (replace kn := kn.still hb21); (replace kz := kz.still hb21); (replace km := km.still hb21); (replace kb := below_next kb hb21); clear hb21; (have t8 : w21.there g8 0 (i16 L2).toArray.size := (by have := km.there; rw [i16_len] at this; rw [List.size_toArray, i16_len]; exact this)); (obtain ⟨V21, hV⟩ : ∃ V, V = w21.setCells g8 0 (i16 L2) := ⟨_, rfl⟩); (replace km := km.stored (i16 L2) (by rw [i16_len, i16_len])); (replace kn := kn.far g8 0 (i16 L2) (.inl n58)); (replace kz := kz.far g8 0 (i16 L2) (.inl n78)); (replace kb := below_setCells g8w (i16 L2) 0 _ kb); rw [← hV] at km kn kz kb; (have H8 := Hid.mk' hV); clear hV)
                | (with_reducible (refine id (?_ : wpList _ _ _ _ _ _)); refine wpList_store_mid rfl 52 _ _ rfl g8 0 (i16 L2).toArray rfl rfl t8 (infoIA L2) (oneI L2) ?_; rw [List.toList_toArray, ← H8.out]; clear t8 H8))
              go_roundw
              case rel => exact ⟨k + 1, x2, L2, by omega, by omega, by go_num, hx2, hX2, kn, kz, km, kb⟩
              case measure => simp [intOf]; omega
      · have hlen' : ¬((ns : Int) = 32) := by omega
        have hMY := hR
        have hY := hzl
        obtain ⟨Y, hYe⟩ : ∃ Y, Y = zs := ⟨_, rfl⟩
        obtain ⟨M, hMe⟩ : ∃ M, M = R := ⟨_, rfl⟩
        rw [← hYe] at hMY hY k11
        rw [← hMe] at hMY k12
        clear hYe hMe hR hzl
        go_upto_region 15 with (fail)
        (try simp only [Act.put, List.setIfInBounds_toArray, List.set_cons_zero, List.set_cons_succ])
        clear hby hlow o1 o2 hlen hlen'
        by_cases hk0 : kk = 0
        · subst hk0
          have cp : ∀ W, Calls Try.prog 35 #[.agg (c4 x).toArray, .agg (c4 Y).toArray] W fun e w' => e = .returned (.agg (c4 (fadd x Y)).toArray) ∧ Below W.heap.size W w' := fun W => plus_any x Y hx hY W
          have cq : ∀ W, Calls Try.prog 36 #[.agg (i16 L).toArray, .agg (i16 M).toArray] W fun e w' => e = .returned (.agg (i16 (plusL L M)).toArray) ∧ Below W.heap.size W w' := fun W => rplus_any L M hX.far hMY.far W
          have hX2 : Rw (plusL L M) (fadd x Y) := rw_plus hX hMY
          have hx2 : fadd x Y < pF := fadd_lt x Y
          obtain ⟨x2, hx2e⟩ : ∃ x2, x2 = fadd x Y := ⟨_, rfl⟩
          rw [← hx2e] at cp hx2 hX2
          obtain ⟨L2, hL2e⟩ : ∃ L2, L2 = plusL L M := ⟨_, rfl⟩
          rw [← hL2e] at cq hX2
          clear hL2e
          clear hx2e hMY hY hX hx
          go_wp2_with (first
            | (refine wpList_load_mid rfl 46 _ rfl g5 0 rfl (c4 x) _ kn.range Try.underlying46 rfl info4 ?_)
            | (refine wpList_load_mid rfl 46 _ rfl g11 0 rfl (c4 Y) _ k11.range Try.underlying46 rfl info4 ?_)
            | (refine wpList_load_mid rfl 52 _ rfl g8 0 rfl (i16 L) _ km.range Try.underlying52 rfl (infoI _) ?_)
            | (refine wpList_load_mid rfl 52 _ rfl g12 0 rfl (i16 M) _ k12.range Try.underlying52 rfl (infoI _) ?_)
            | (go_at_call 35; refine (cp _).mono ?_; clear cp; rintro e w20 ⟨rfl, hb20⟩; clear o0; (replace kn := kn.still hb20); (replace kz := kz.still hb20); (replace km := km.still hb20); (replace k11 := k11.still hb20); (replace k12 := k12.still hb20); (replace kb := below_next kb hb20); clear hb20; (have t5 : w20.there g5 0 (c4 x2).toArray.size := kn.there); (obtain ⟨V20, hV⟩ : ∃ V, V = w20.setCells g5 0 (c4 x2) := ⟨_, rfl⟩); (replace kn := kn.stored (c4 x2) rfl); (replace kz := kz.far g5 0 (c4 x2) (.inl n57.symm)); (replace km := km.far g5 0 (c4 x2) (.inl n58.symm)); (replace k11 := k11.far g5 0 (c4 x2) (.inl m511.symm)); (replace k12 := k12.far g5 0 (c4 x2) (.inl m512.symm)); (replace kb := below_setCells g5w (c4 x2) 0 _ kb); rw [← hV] at kn kz km k11 k12 kb; (have H5 := Hid.mk' hV); clear hV)
            | (with_reducible (refine id (?_ : wpList _ _ _ _ _ _)); refine wpList_store_mid rfl 46 _ _ rfl g5 0 (c4 x2).toArray rfl rfl t5 (info4a x2) (one4 x2) ?_; rw [List.toList_toArray, ← H5.out]; clear t5 H5)
            | (go_at_call 36; refine (cq _).mono ?_; clear cq; rintro e w21 ⟨rfl, hb21⟩; (replace kn := kn.still hb21); (replace kz := kz.still hb21); (replace km := km.still hb21); (replace kb := below_next kb hb21); clear hb21; (have t8 : w21.there g8 0 (i16 L2).toArray.size := (by have := km.there; rw [i16_len] at this; rw [List.size_toArray, i16_len]; exact this)); (obtain ⟨V21, hV⟩ : ∃ V, V = w21.setCells g8 0 (i16 L2) := ⟨_, rfl⟩); (replace km := km.stored (i16 L2) (by rw [i16_len, i16_len])); (replace kn := kn.far g8 0 (i16 L2) (.inl n58)); (replace kz := kz.far g8 0 (i16 L2) (.inl n78)); (replace kb := below_setCells g8w (i16 L2) 0 _ kb); rw [← hV] at km kn kz kb; (have H8 := Hid.mk' hV); clear hV)
            | (with_reducible (refine id (?_ : wpList _ _ _ _ _ _)); refine wpList_store_mid rfl 52 _ _ rfl g8 0 (i16 L2).toArray rfl rfl t8 (infoIA L2) (oneI L2) ?_; rw [List.toList_toArray, ← H8.out]; clear t8 H8))
          go_roundw
          case rel => exact ⟨k + 1, x2, L2, by omega, by omega, by go_num, hx2, hX2, kn, kz, km, kb⟩
          case measure => simp [intOf]; omega
        · have hj0 : ¬(kk = 0) := hk0
          by_cases hk1 : kk = 1
          · subst hk1
            have cp : ∀ W, Calls Try.prog 37 #[.agg (c4 x).toArray, .agg (c4 Y).toArray] W fun e w' => e = .returned (.agg (c4 (fsub x Y)).toArray) ∧ Below W.heap.size W w' := fun W => minus_any x Y hx hY W
            have cq : ∀ W, Calls Try.prog 38 #[.agg (i16 L).toArray, .agg (i16 M).toArray] W fun e w' => e = .returned (.agg (i16 (minusL L M)).toArray) ∧ Below W.heap.size W w' := fun W => rminus_any L M hX.far hMY.far W
            have hX2 : Rw (minusL L M) (fsub x Y) := rw_minus hX hMY hY
            have hx2 : fsub x Y < pF := fsub_lt x Y
            obtain ⟨x2, hx2e⟩ : ∃ x2, x2 = fsub x Y := ⟨_, rfl⟩
            rw [← hx2e] at cp hx2 hX2
            obtain ⟨L2, hL2e⟩ : ∃ L2, L2 = minusL L M := ⟨_, rfl⟩
            rw [← hL2e] at cq hX2
            clear hL2e
            clear hx2e hMY hY hX hx
            go_wp2_with (first
              | (refine wpList_load_mid rfl 46 _ rfl g5 0 rfl (c4 x) _ kn.range Try.underlying46 rfl info4 ?_)
              | (refine wpList_load_mid rfl 46 _ rfl g11 0 rfl (c4 Y) _ k11.range Try.underlying46 rfl info4 ?_)
              | (refine wpList_load_mid rfl 52 _ rfl g8 0 rfl (i16 L) _ km.range Try.underlying52 rfl (infoI _) ?_)
              | (refine wpList_load_mid rfl 52 _ rfl g12 0 rfl (i16 M) _ k12.range Try.underlying52 rfl (infoI _) ?_)
              | (go_at_call 37; refine (cp _).mono ?_; clear cp; rintro e w20 ⟨rfl, hb20⟩; clear o0; (replace kn := kn.still hb20); (replace kz := kz.still hb20); (replace km := km.still hb20); (replace k11 := k11.still hb20); (replace k12 := k12.still hb20); (replace kb := below_next kb hb20); clear hb20; (have t5 : w20.there g5 0 (c4 x2).toArray.size := kn.there); (obtain ⟨V20, hV⟩ : ∃ V, V = w20.setCells g5 0 (c4 x2) := ⟨_, rfl⟩); (replace kn := kn.stored (c4 x2) rfl); (replace kz := kz.far g5 0 (c4 x2) (.inl n57.symm)); (replace km := km.far g5 0 (c4 x2) (.inl n58.symm)); (replace k11 := k11.far g5 0 (c4 x2) (.inl m511.symm)); (replace k12 := k12.far g5 0 (c4 x2) (.inl m512.symm)); (replace kb := below_setCells g5w (c4 x2) 0 _ kb); rw [← hV] at kn kz km k11 k12 kb; (have H5 := Hid.mk' hV); clear hV)
              | (with_reducible (refine id (?_ : wpList _ _ _ _ _ _)); refine wpList_store_mid rfl 46 _ _ rfl g5 0 (c4 x2).toArray rfl rfl t5 (info4a x2) (one4 x2) ?_; rw [List.toList_toArray, ← H5.out]; clear t5 H5)
              | (go_at_call 38; refine (cq _).mono ?_; clear cq; rintro e w21 ⟨rfl, hb21⟩; (replace kn := kn.still hb21); (replace kz := kz.still hb21); (replace km := km.still hb21); (replace kb := below_next kb hb21); clear hb21; (have t8 : w21.there g8 0 (i16 L2).toArray.size := (by have := km.there; rw [i16_len] at this; rw [List.size_toArray, i16_len]; exact this)); (obtain ⟨V21, hV⟩ : ∃ V, V = w21.setCells g8 0 (i16 L2) := ⟨_, rfl⟩); (replace km := km.stored (i16 L2) (by rw [i16_len, i16_len])); (replace kn := kn.far g8 0 (i16 L2) (.inl n58)); (replace kz := kz.far g8 0 (i16 L2) (.inl n78)); (replace kb := below_setCells g8w (i16 L2) 0 _ kb); rw [← hV] at km kn kz kb; (have H8 := Hid.mk' hV); clear hV)
              | (with_reducible (refine id (?_ : wpList _ _ _ _ _ _)); refine wpList_store_mid rfl 52 _ _ rfl g8 0 (i16 L2).toArray rfl rfl t8 (infoIA L2) (oneI L2) ?_; rw [List.toList_toArray, ← H8.out]; clear t8 H8))
            go_roundw
            case rel => exact ⟨k + 1, x2, L2, by omega, by omega, by go_num, hx2, hX2, kn, kz, km, kb⟩
            case measure => simp [intOf]; omega
          · have hj1 : ¬(kk = 1) := hk1
            by_cases hk2 : kk = 2
            · subst hk2
              have cp : ∀ W, Calls Try.prog 39 #[.agg (c4 x).toArray, .agg (c4 Y).toArray] W fun e w' => e = .returned (.agg (c4 (fmul x Y)).toArray) ∧ Below W.heap.size W w' := fun W => times_any x Y hx hY W
              have cq : ∀ W, Calls Try.prog 40 #[.agg (i16 L).toArray, .agg (i16 M).toArray] W fun e w' => e = .returned (.agg (i16 (timesL L M)).toArray) ∧ Below W.heap.size W w' := fun W => rtimes_any L M hX.bd hMY.bd W
              have hX2 : Rw (timesL L M) (fmul x Y) := (rw_times hX hMY.wide).wide
              have hx2 : fmul x Y < pF := fmul_lt x Y
              obtain ⟨x2, hx2e⟩ : ∃ x2, x2 = fmul x Y := ⟨_, rfl⟩
              rw [← hx2e] at cp hx2 hX2
              obtain ⟨L2, hL2e⟩ : ∃ L2, L2 = timesL L M := ⟨_, rfl⟩
              rw [← hL2e] at cq hX2
              clear hL2e
              clear hx2e hMY hY hX hx
              go_wp2_with (first
                | (refine wpList_load_mid rfl 46 _ rfl g5 0 rfl (c4 x) _ kn.range Try.underlying46 rfl info4 ?_)
                | (refine wpList_load_mid rfl 46 _ rfl g11 0 rfl (c4 Y) _ k11.range Try.underlying46 rfl info4 ?_)
                | (refine wpList_load_mid rfl 52 _ rfl g8 0 rfl (i16 L) _ km.range Try.underlying52 rfl (infoI _) ?_)
                | (refine wpList_load_mid rfl 52 _ rfl g12 0 rfl (i16 M) _ k12.range Try.underlying52 rfl (infoI _) ?_)
                | (go_at_call 39; refine (cp _).mono ?_; clear cp; rintro e w20 ⟨rfl, hb20⟩; clear o0; (replace kn := kn.still hb20); (replace kz := kz.still hb20); (replace km := km.still hb20); (replace k11 := k11.still hb20); (replace k12 := k12.still hb20); (replace kb := below_next kb hb20); clear hb20; (have t5 : w20.there g5 0 (c4 x2).toArray.size := kn.there); (obtain ⟨V20, hV⟩ : ∃ V, V = w20.setCells g5 0 (c4 x2) := ⟨_, rfl⟩); (replace kn := kn.stored (c4 x2) rfl); (replace kz := kz.far g5 0 (c4 x2) (.inl n57.symm)); (replace km := km.far g5 0 (c4 x2) (.inl n58.symm)); (replace k11 := k11.far g5 0 (c4 x2) (.inl m511.symm)); (replace k12 := k12.far g5 0 (c4 x2) (.inl m512.symm)); (replace kb := below_setCells g5w (c4 x2) 0 _ kb); rw [← hV] at kn kz km k11 k12 kb; (have H5 := Hid.mk' hV); clear hV)
                | (with_reducible (refine id (?_ : wpList _ _ _ _ _ _)); refine wpList_store_mid rfl 46 _ _ rfl g5 0 (c4 x2).toArray rfl rfl t5 (info4a x2) (one4 x2) ?_; rw [List.toList_toArray, ← H5.out]; clear t5 H5)
                | (go_at_call 40; refine (cq _).mono ?_; clear cq; rintro e w21 ⟨rfl, hb21⟩; (replace kn := kn.still hb21); (replace kz := kz.still hb21); (replace km := km.still hb21); (replace kb := below_next kb hb21); clear hb21; (have t8 : w21.there g8 0 (i16 L2).toArray.size := (by have := km.there; rw [i16_len] at this; rw [List.size_toArray, i16_len]; exact this)); (obtain ⟨V21, hV⟩ : ∃ V, V = w21.setCells g8 0 (i16 L2) := ⟨_, rfl⟩); (replace km := km.stored (i16 L2) (by rw [i16_len, i16_len])); (replace kn := kn.far g8 0 (i16 L2) (.inl n58)); (replace kz := kz.far g8 0 (i16 L2) (.inl n78)); (replace kb := below_setCells g8w (i16 L2) 0 _ kb); rw [← hV] at km kn kz kb; (have H8 := Hid.mk' hV); clear hV)
                | (with_reducible (refine id (?_ : wpList _ _ _ _ _ _)); refine wpList_store_mid rfl 52 _ _ rfl g8 0 (i16 L2).toArray rfl rfl t8 (infoIA L2) (oneI L2) ?_; rw [List.toList_toArray, ← H8.out]; clear t8 H8))
              go_roundw
              case rel => exact ⟨k + 1, x2, L2, by omega, by omega, by go_num, hx2, hX2, kn, kz, km, kb⟩
              case measure => simp [intOf]; omega
            · have hj2 : ¬(kk = 2) := hk2
              have cp : ∀ W, Calls Try.prog 41 #[.agg (c4 x).toArray] W fun e w' => e = .returned (.agg (c4 (finv x)).toArray) ∧ Below W.heap.size W w' := fun W => inverse_any x hx W
              have cq : ∀ W, Calls Try.prog 42 #[.agg (i16 L).toArray] W fun e w' => ∃ R, e = .returned (.agg (i16 R).toArray) ∧ Rw R (finv x) ∧ Below W.heap.size W w' := fun W => rinverse_wide L x hX W
              have hx2 : finv x < pF := finv_lt x
              obtain ⟨x2, hx2e⟩ : ∃ x2, x2 = finv x := ⟨_, rfl⟩
              rw [← hx2e] at cp hx2 cq
              clear hx2e hMY hY hX hx
              go_wp2_with (first
                | (refine wpList_load_mid rfl 46 _ rfl g5 0 rfl (c4 x) _ kn.range Try.underlying46 rfl info4 ?_)
                | (refine wpList_load_mid rfl 52 _ rfl g8 0 rfl (i16 L) _ km.range Try.underlying52 rfl (infoI _) ?_)
                | (go_at_call 41; refine (cp _).mono ?_; clear cp; rintro e w20 ⟨rfl, hb20⟩; clear o0; (replace kn := kn.still hb20); (replace kz := kz.still hb20); (replace km := km.still hb20); (replace k11 := k11.still hb20); (replace k12 := k12.still hb20); (replace kb := below_next kb hb20); clear hb20; (have t5 : w20.there g5 0 (c4 x2).toArray.size := kn.there); (obtain ⟨V20, hV⟩ : ∃ V, V = w20.setCells g5 0 (c4 x2) := ⟨_, rfl⟩); (replace kn := kn.stored (c4 x2) rfl); (replace kz := kz.far g5 0 (c4 x2) (.inl n57.symm)); (replace km := km.far g5 0 (c4 x2) (.inl n58.symm)); (replace k11 := k11.far g5 0 (c4 x2) (.inl m511.symm)); (replace k12 := k12.far g5 0 (c4 x2) (.inl m512.symm)); (replace kb := below_setCells g5w (c4 x2) 0 _ kb); rw [← hV] at kn kz km k11 k12 kb; (have H5 := Hid.mk' hV); clear hV)
                | (with_reducible (refine id (?_ : wpList _ _ _ _ _ _)); refine wpList_store_mid rfl 46 _ _ rfl g5 0 (c4 x2).toArray rfl rfl t5 (info4a x2) (one4 x2) ?_; rw [List.toList_toArray, ← H5.out]; clear t5 H5)
                | (go_at_call 42; refine (cq _).mono ?_; clear cq; rintro e w21 ⟨L2, rfl, hX2, hb21⟩; (replace kn := kn.still hb21); (replace kz := kz.still hb21); (replace km := km.still hb21); (replace kb := below_next kb hb21); clear hb21; (have t8 : w21.there g8 0 (i16 L2).toArray.size := (by have := km.there; rw [i16_len] at this; rw [List.size_toArray, i16_len]; exact this)); (obtain ⟨V21, hV⟩ : ∃ V, V = w21.setCells g8 0 (i16 L2) := ⟨_, rfl⟩); (replace km := km.stored (i16 L2) (by rw [i16_len, i16_len])); (replace kn := kn.far g8 0 (i16 L2) (.inl n58)); (replace kz := kz.far g8 0 (i16 L2) (.inl n78)); (replace kb := below_setCells g8w (i16 L2) 0 _ kb); rw [← hV] at km kn kz kb; (have H8 := Hid.mk' hV); clear hV)
                | (with_reducible (refine id (?_ : wpList _ _ _ _ _ _)); refine wpList_store_mid rfl 52 _ _ rfl g8 0 (i16 L2).toArray rfl rfl t8 (infoIA L2) (oneI L2) ?_; rw [List.toList_toArray, ← H8.out]; clear t8 H8))
              go_roundw
              case rel => exact ⟨k + 1, x2, L2, by omega, by omega, by go_num, hx2, hX2, kn, kz, km, kb⟩
              case measure => simp [intOf]; omega
    · have cb31 := fun W => bytes_any x W
      have cb33 := fun W => bytes_any 0 W
      have cr : ∀ W, Calls Try.prog 43 #[rV L] W fun e w' => ∃ v, e = .returned v ∧ Own W.heap.size w' v 32 (byt x) ∧ Below W.heap.size W w' := fun W => by
        have h := rbytes L (hX.dig.mono (by decide)) x hX.val W
        rw [Nat.mod_eq_of_lt hx] at h
        exact h
      clear ho hX hx
      by_cases h1 : k < cnt
      · have h1' : (k : Int) < (cnt : Int) := by omega
        have h2' : ¬((k : Int) < 40) := by omega
        go_upto_region 27 with (fail)
        (try simp only [Act.put, List.setIfInBounds_toArray, List.set_cons_zero, List.set_cons_succ])
        have hdrew : Below wr.heap.size wr wr.drew := (Below.refl _ _).drew
        replace kn := kn.still hdrew
        replace km := km.still hdrew
        replace kz := kz.still hdrew
        replace kb := below_next kb hdrew
        clear hdrew
        refine wp_region_noPanic ?_
        refine wp_region_held_drew (S := fun w' => Below wr.drew.heap.size wr.drew w') (by kernel_rfl) (Below.refl _ _) (fun hHeld => ?_)
        clear hHeld
        refine wpAnyH_take (i := 0) (oi := { dst := some 101, op := Op.move (Operand.tmp 6), type := 24, pos := "law.go:185", after := #[], guard := none }) (v := ?vea0) rfl (by kernel_rfl) (by kernel_rfl) (by kernel_rfl) (fun _ _ _ h => h) (Or.inl ⟨by rfl, ?hea0⟩) (Below.refl _ _) ?rea0
        case hea0 =>
          intro w hSw
          go_simp
          try with_reducible rfl
        (try simp only [Act.put, List.setIfInBounds_toArray, List.set_cons_zero, List.set_cons_succ])
        refine wpAnyH_ready (rs := [1]) (by kernel_rfl) (by simp) ?_
        refine AllReadyH.cons (o := { dst := some 102, op := Op.call { callee := Callee.value (Operand.func 17), args := #[Operand.tmp 101], argTypes := #[24] }, type := 3, pos := "law.go:185", after := #[{ on := 0, ground := Ground.data }], guard := none }) rfl (fun K hK => ?_) AllReadyH.nil
        go_simp
        (go_at_call 17; refine (num3_any _ _).mono ?_; rintro e wn ⟨rfl, hwn⟩; subst hwn)
        (try go_simp)
        refine hK.out _ _ (Below.refl _ _) (fun h => ?_)
        clear h hK K
        (try simp only [Act.put, List.setIfInBounds_toArray, List.set_cons_zero, List.set_cons_succ])
        refine wpAnyH_take (i := 2) (oi := { dst := some 103, op := Op.binOp BinOp.eql 3 (Operand.tmp 102) (Operand.const (Value.int IntKind.i64 0)) 3, type := 4, pos := "law.go:185", after := #[{ on := 1, ground := Ground.data }], guard := none }) (v := ?vea2) rfl (by kernel_rfl) (by kernel_rfl) (by kernel_rfl) (fun _ _ _ h => h) (Or.inl ⟨by rfl, ?hea2⟩) (Below.refl _ _) ?rea2
        case hea2 =>
          intro w hSw
          go_simp
          try with_reducible rfl
        (try simp only [Act.put, List.setIfInBounds_toArray, List.set_cons_zero, List.set_cons_succ])
        refine wpAnyH_take (i := 3) (oi := { dst := some 104, op := Op.move (Operand.tmp 103), type := 4, pos := "law.go:185", after := #[{ on := 2, ground := Ground.data }, { on := 1, ground := Ground.chain }], guard := none }) (v := ?vea3) rfl (by kernel_rfl) (by kernel_rfl) (by kernel_rfl) (fun _ _ _ h => h) (Or.inl ⟨by rfl, ?hea3⟩) (Below.refl _ _) ?rea3
        case hea3 =>
          intro w hSw
          go_simp
          try with_reducible rfl
        (try simp only [Act.put, List.setIfInBounds_toArray, List.set_cons_zero, List.set_cons_succ])
        refine wpAnyH_take (i := 4) (oi := { dst := some 105, op := Op.load 46 (Operand.tmp 5), type := 46, pos := "law.go:185", after := #[{ on := 3, ground := Ground.guard }], guard := some (3, true) }) (v := numV x) rfl (by kernel_rfl) (by kernel_rfl) (by kernel_rfl) (fun _ _ _ h => h) (yieldsIf_load_mid (by rfl) 46 _ rfl g5 0 rfl (c4 x) _ (fun _ h => (kn.still h).range) Try.underlying46 rfl info4) (Below.refl _ _) ?_
        (try simp only [Act.put, List.setIfInBounds_toArray, List.set_cons_zero, List.set_cons_succ])
        refine wpAnyH_take (i := 7) (oi := { dst := some 108, op := Op.load 52 (Operand.tmp 8), type := 52, pos := "law.go:185", after := #[{ on := 3, ground := Ground.guard }], guard := some (3, true) }) (v := rV L) rfl (by kernel_rfl) (by kernel_rfl) (by kernel_rfl) (fun _ _ _ h => h) (yieldsIf_load_mid (by rfl) 52 _ rfl g8 0 rfl (i16 L) _ (fun _ h => (km.still h).range) Try.underlying52 rfl (infoI _)) (Below.refl _ _) ?_
        (try simp only [Act.put, List.setIfInBounds_toArray, List.set_cons_zero, List.set_cons_succ])
        refine wpAnyH_ready (rs := [5]) (by kernel_rfl) (by simp) ?_
        refine AllReadyH.cons (o := { dst := some 106, op := Op.call { callee := Callee.value (Operand.func 31), args := #[Operand.tmp 105], argTypes := #[46] }, type := 22, pos := "law.go:185", after := #[{ on := 4, ground := Ground.data }, { on := 3, ground := Ground.chain }, { on := 3, ground := Ground.guard }], guard := some (3, true) }) rfl (fun K hK => ?_) AllReadyH.nil
        go_simp
        (go_at_call 31; refine (cb31 _).mono ?_; clear cb31; rintro e w31 ⟨g31, rfl, hg31, hr31, hb31⟩; (have t31 := (Str.of (n := 32) (X := byt x) (.inr ⟨g31, 0, 32, rfl, block_lt_of_cell (hr31 0 (by decide)).1, Nat.le_refl _, fun j hj => (hr31 j hj).1⟩) (byt_all x))); clear hg31 hr31)
        (try go_simp)
        refine hK.out _ _ hb31 (fun h => ?_)
        clear h hK K
        refine wpAnyH_narrow (S' := fun w' => Below w31.heap.size w31 w') (fun _ h => below_next hb31 h) _ _ _ _ ?_
        clear kn
        replace km := km.still hb31
        replace kz := kz.still hb31
        replace kb := below_next kb hb31
        clear hb31
        (try simp only [Act.put, List.setIfInBounds_toArray, List.set_cons_zero, List.set_cons_succ])
        refine wpAnyH_take (i := 6) (oi := { dst := some 107, op := Op.convert 22 9 (Operand.tmp 106), type := 9, pos := "law.go:185", after := #[{ on := 5, ground := Ground.data }, { on := 3, ground := Ground.guard }], guard := some (3, true) }) (v := ?vea6) rfl (by kernel_rfl) (by kernel_rfl) (by kernel_rfl) (fun _ _ _ h => h) (Or.inl ⟨by rfl, ?hea6⟩) (Below.refl _ _) ?rea6
        case hea6 =>
          intro w hSw
          have q := t31.conv w hSw
          go_simp
          try with_reducible rfl
        (try simp only [Act.put, List.setIfInBounds_toArray, List.set_cons_zero, List.set_cons_succ])
        refine wpAnyH_ready (rs := [8]) (by kernel_rfl) (by simp) ?_
        refine AllReadyH.cons (o := { dst := some 109, op := Op.call { callee := Callee.value (Operand.func 43), args := #[Operand.tmp 108], argTypes := #[52] }, type := 22, pos := "law.go:185", after := #[{ on := 7, ground := Ground.data }, { on := 5, ground := Ground.chain }, { on := 3, ground := Ground.guard }], guard := some (3, true) }) rfl (fun K hK => ?_) AllReadyH.nil
        go_simp
        (go_at_call 43; refine (cr _).mono ?_; clear cr; rintro e w32 ⟨v32, rfl, own32, hb32⟩; (have t32 := Str.of (BytesIn.of_own own32) (byt_all x)); (obtain ⟨x32, n32, k32, rfl⟩ := t32.form); clear own32)
        (try go_simp)
        refine hK.out _ _ hb32 (fun h => ?_)
        clear h hK K
        refine wpAnyH_narrow (S' := fun w' => Below w32.heap.size w32 w') (fun _ h => below_next hb32 h) _ _ _ _ ?_
        clear km
        replace kz := kz.still hb32
        replace t31 := t31.still hb32
        replace kb := below_next kb hb32
        clear hb32
        (try simp only [Act.put, List.setIfInBounds_toArray, List.set_cons_zero, List.set_cons_succ])
        refine wpAnyH_take (i := 9) (oi := { dst := some 110, op := Op.convert 22 9 (Operand.tmp 109), type := 9, pos := "law.go:185", after := #[{ on := 8, ground := Ground.data }, { on := 3, ground := Ground.guard }], guard := some (3, true) }) (v := ?vea9) rfl (by kernel_rfl) (by kernel_rfl) (by kernel_rfl) (fun _ _ _ h => h) (Or.inl ⟨by rfl, ?hea9⟩) (Below.refl _ _) ?rea9
        case hea9 =>
          intro w hSw
          have q := t32.conv w hSw
          go_simp
          try with_reducible rfl
        (try simp only [Act.put, List.setIfInBounds_toArray, List.set_cons_zero, List.set_cons_succ])
        refine wpAnyH_take (i := 10) (oi := { dst := some 111, op := Op.binOp BinOp.eql 9 (Operand.tmp 107) (Operand.tmp 110) 9, type := 4, pos := "law.go:185", after := #[{ on := 6, ground := Ground.data }, { on := 9, ground := Ground.data }, { on := 3, ground := Ground.guard }], guard := some (3, true) }) (v := ?vea10) rfl (by kernel_rfl) (by kernel_rfl) (by kernel_rfl) (fun _ _ _ h => h) (Or.inl ⟨by rfl, ?hea10⟩) (Below.refl _ _) ?rea10
        case hea10 =>
          intro w hSw
          go_simp
          try with_reducible rfl
        (try simp only [Act.put, List.setIfInBounds_toArray, List.set_cons_zero, List.set_cons_succ])
        refine wpAnyH_take (i := 11) (oi := { dst := some 112, op := Op.pick (Operand.tmp 104) (Operand.tmp 111) (Operand.const (Value.bool false)), type := 4, pos := "law.go:185", after := #[{ on := 3, ground := Ground.data }, { on := 10, ground := Ground.data }], guard := none }) (v := ?vea11) rfl (by kernel_rfl) (by kernel_rfl) (by kernel_rfl) (fun _ _ _ h => h) (Or.inl ⟨by rfl, ?hea11⟩) (Below.refl _ _) ?rea11
        case hea11 =>
          intro w hSw
          go_simp
          try with_reducible rfl
        (try simp only [Act.put, List.setIfInBounds_toArray, List.set_cons_zero, List.set_cons_succ])
        refine wpAnyH_take (i := 12) (oi := { dst := some 113, op := Op.move (Operand.tmp 112), type := 4, pos := "law.go:185", after := #[{ on := 11, ground := Ground.data }, { on := 8, ground := Ground.chain }], guard := none }) (v := ?vea12) rfl (by kernel_rfl) (by kernel_rfl) (by kernel_rfl) (fun _ _ _ h => h) (Or.inl ⟨by rfl, ?hea12⟩) (Below.refl _ _) ?rea12
        case hea12 =>
          intro w hSw
          go_simp
          try with_reducible rfl
        (try simp only [Act.put, List.setIfInBounds_toArray, List.set_cons_zero, List.set_cons_succ])
        refine wpAnyH_take (i := 13) (oi := { dst := some 114, op := Op.load 46 (Operand.tmp 7), type := 46, pos := "law.go:185", after := #[{ on := 12, ground := Ground.guard }], guard := some (12, true) }) (v := numV 0) rfl (by kernel_rfl) (by kernel_rfl) (by kernel_rfl) (fun _ _ _ h => h) (yieldsIf_load_mid (by rfl) 46 _ rfl g7 0 rfl (c4 0) _ (fun _ h => (kz.still h).range) Try.underlying46 rfl info4) (Below.refl _ _) ?_
        (try simp only [Act.put, List.setIfInBounds_toArray, List.set_cons_zero, List.set_cons_succ])
        refine wpAnyH_ready (rs := [14]) (by kernel_rfl) (by simp) ?_
        refine AllReadyH.cons (o := { dst := some 115, op := Op.call { callee := Callee.value (Operand.func 31), args := #[Operand.tmp 114], argTypes := #[46] }, type := 22, pos := "law.go:185", after := #[{ on := 13, ground := Ground.data }, { on := 12, ground := Ground.chain }, { on := 12, ground := Ground.guard }], guard := some (12, true) }) rfl (fun K hK => ?_) AllReadyH.nil
        go_simp
        (go_at_call 31; refine (cb33 _).mono ?_; clear cb33; rintro e w33 ⟨g33, rfl, hg33, hr33, hb33⟩; (have t33 := (Str.of (n := 32) (X := byt 0) (.inr ⟨g33, 0, 32, rfl, block_lt_of_cell (hr33 0 (by decide)).1, Nat.le_refl _, fun j hj => (hr33 j hj).1⟩) (byt_all 0))); clear hg33 hr33)
        (try go_simp)
        refine hK.out _ _ hb33 (fun h => ?_)
        clear h hK K
        refine wpAnyH_narrow (S' := fun w' => Below w33.heap.size w33 w') (fun _ h => below_next hb33 h) _ _ _ _ ?_
        clear kz
        replace t31 := t31.still hb33
        replace t32 := t32.still hb33
        replace kb := below_next kb hb33
        clear hb33
        (try simp only [Act.put, List.setIfInBounds_toArray, List.set_cons_zero, List.set_cons_succ])
        refine wpAnyH_take (i := 15) (oi := { dst := some 116, op := Op.convert 22 9 (Operand.tmp 115), type := 9, pos := "law.go:185", after := #[{ on := 14, ground := Ground.data }, { on := 12, ground := Ground.guard }], guard := some (12, true) }) (v := ?vea15) rfl (by kernel_rfl) (by kernel_rfl) (by kernel_rfl) (fun _ _ _ h => h) (Or.inl ⟨by rfl, ?hea15⟩) (Below.refl _ _) ?rea15
        case hea15 =>
          intro w hSw
          have q := t33.conv w hSw
          go_simp
          try with_reducible rfl
        (try simp only [Act.put, List.setIfInBounds_toArray, List.set_cons_zero, List.set_cons_succ])
        refine wpAnyH_ready (rs := [16]) (by kernel_rfl) (by simp) ?_
        refine AllReadyH.cons (o := { dst := some 117, op := Op.call { callee := Callee.value (Operand.func 26), args := #[Operand.const (Value.int IntKind.u8 0)], argTypes := #[5] }, type := 22, pos := "law.go:185", after := #[{ on := 14, ground := Ground.chain }, { on := 12, ground := Ground.guard }], guard := some (12, true) }) rfl (fun K hK => ?_) AllReadyH.nil
        go_simp
        (go_at_call 26; refine (c0 _).mono ?_; clear c0; rintro e w34 ⟨s34, rfl, hn34, hb34⟩; (have t34 := hn34.str); obtain ⟨g34, rfl, -⟩ := hn34)
        (try go_simp)
        refine hK.out _ _ hb34 (fun h => ?_)
        clear h hK K
        refine wpAnyH_narrow (S' := fun w' => Below w34.heap.size w34 w') (fun _ h => below_next hb34 h) _ _ _ _ ?_
        replace t31 := t31.still hb34
        replace t32 := t32.still hb34
        replace t33 := t33.still hb34
        replace kb := below_next kb hb34
        clear hb34
        (try simp only [Act.put, List.setIfInBounds_toArray, List.set_cons_zero, List.set_cons_succ])
        refine wpAnyH_take (i := 17) (oi := { dst := some 118, op := Op.convert 22 9 (Operand.tmp 117), type := 9, pos := "law.go:185", after := #[{ on := 16, ground := Ground.data }, { on := 12, ground := Ground.guard }], guard := some (12, true) }) (v := ?vea17) rfl (by kernel_rfl) (by kernel_rfl) (by kernel_rfl) (fun _ _ _ h => h) (Or.inl ⟨by rfl, ?hea17⟩) (Below.refl _ _) ?rea17
        case hea17 =>
          intro w hSw
          have q := t34.conv w hSw
          go_simp
          try with_reducible rfl
        (try simp only [Act.put, List.setIfInBounds_toArray, List.set_cons_zero, List.set_cons_succ])
        refine wpAnyH_take (i := 18) (oi := { dst := some 119, op := Op.binOp BinOp.eql 9 (Operand.tmp 116) (Operand.tmp 118) 9, type := 4, pos := "law.go:185", after := #[{ on := 15, ground := Ground.data }, { on := 17, ground := Ground.data }, { on := 12, ground := Ground.guard }], guard := some (12, true) }) (v := ?vea18) rfl (by kernel_rfl) (by kernel_rfl) (by kernel_rfl) (fun _ _ _ h => h) (Or.inl ⟨by rfl, ?hea18⟩) (Below.refl _ _) ?rea18
        case hea18 =>
          intro w hSw
          go_simp
          try with_reducible rfl
        (try simp only [Act.put, List.setIfInBounds_toArray, List.set_cons_zero, List.set_cons_succ])
        refine wpAnyH_take (i := 19) (oi := { dst := some 120, op := Op.pick (Operand.tmp 113) (Operand.tmp 119) (Operand.const (Value.bool false)), type := 4, pos := "law.go:185", after := #[{ on := 12, ground := Ground.data }, { on := 18, ground := Ground.data }], guard := none }) (v := ?vea19) rfl (by kernel_rfl) (by kernel_rfl) (by kernel_rfl) (fun _ _ _ h => h) (Or.inl ⟨by rfl, ?hea19⟩) (Below.refl _ _) ?rea19
        case hea19 =>
          intro w hSw
          go_simp
          try with_reducible rfl
        (try simp only [Act.put, List.setIfInBounds_toArray, List.set_cons_zero, List.set_cons_succ])
        refine wpAnyH_take (i := 20) (oi := { dst := some 121, op := Op.move (Operand.tmp 120), type := 4, pos := "law.go:185", after := #[{ on := 19, ground := Ground.data }, { on := 16, ground := Ground.chain }], guard := none }) (v := ?vea20) rfl (by kernel_rfl) (by kernel_rfl) (by kernel_rfl) (fun _ _ _ h => h) (Or.inl ⟨by rfl, ?hea20⟩) (Below.refl _ _) ?rea20
        case hea20 =>
          intro w hSw
          go_simp
          try with_reducible rfl
        (try simp only [Act.put, List.setIfInBounds_toArray, List.set_cons_zero, List.set_cons_succ])
        refine wpAnyH_ready (rs := [21]) (by kernel_rfl) (by simp) ?_
        refine AllReadyH.cons (o := { dst := some 122, op := Op.call { callee := Callee.value (Operand.func 19), args := #[], argTypes := #[] }, type := 4, pos := "law.go:185", after := #[{ on := 20, ground := Ground.chain }, { on := 20, ground := Ground.guard }], guard := some (20, true) }) rfl (fun K hK => ?_) AllReadyH.nil
        go_simp
        (go_at_call 19; refine (hkn _).mono ?_; clear hkn; rintro e w35 ⟨rfl, hb35⟩)
        (try go_simp)
        refine hK.out _ _ hb35 (fun h => ?_)
        clear h hK K
        refine wpAnyH_narrow (S' := fun w' => Below w35.heap.size w35 w') (fun _ h => below_next hb35 h) _ _ _ _ ?_
        replace t31 := t31.still hb35
        replace t32 := t32.still hb35
        replace t33 := t33.still hb35
        replace t34 := t34.still hb35
        replace kb := below_next kb hb35
        clear hb35
        (try simp only [Act.put, List.setIfInBounds_toArray, List.set_cons_zero, List.set_cons_succ])
        refine wpAnyH_take (i := 22) (oi := { dst := some 123, op := Op.pick (Operand.tmp 121) (Operand.tmp 122) (Operand.const (Value.bool false)), type := 4, pos := "law.go:185", after := #[{ on := 20, ground := Ground.data }, { on := 21, ground := Ground.data }], guard := none }) (v := ?vea22) rfl (by kernel_rfl) (by kernel_rfl) (by kernel_rfl) (fun _ _ _ h => h) (Or.inl ⟨by rfl, ?hea22⟩) (Below.refl _ _) ?rea22
        case hea22 =>
          intro w hSw
          go_simp
          try with_reducible rfl
        (try simp only [Act.put, List.setIfInBounds_toArray, List.set_cons_zero, List.set_cons_succ])
        refine wpAnyH_take (i := 23) (oi := { dst := some 4, op := Op.assign (Operand.tmp 123), type := 4, pos := "law.go:185", after := #[{ on := 22, ground := Ground.data }, { on := 21, ground := Ground.chain }, { on := 0, ground := Ground.phase }, { on := 1, ground := Ground.phase }, { on := 2, ground := Ground.phase }, { on := 3, ground := Ground.phase }, { on := 4, ground := Ground.phase }, { on := 5, ground := Ground.phase }, { on := 6, ground := Ground.phase }, { on := 7, ground := Ground.phase }, { on := 8, ground := Ground.phase }, { on := 9, ground := Ground.phase }, { on := 10, ground := Ground.phase }, { on := 11, ground := Ground.phase }, { on := 12, ground := Ground.phase }, { on := 13, ground := Ground.phase }, { on := 14, ground := Ground.phase }, { on := 15, ground := Ground.phase }, { on := 16, ground := Ground.phase }, { on := 17, ground := Ground.phase }, { on := 18, ground := Ground.phase }, { on := 19, ground := Ground.phase }, { on := 20, ground := Ground.phase }, { on := 21, ground := Ground.phase }, { on := 22, ground := Ground.phase }], guard := none }) (v := ?vea23) rfl (by kernel_rfl) (by kernel_rfl) (by kernel_rfl) (fun _ _ _ h => h) (Or.inl ⟨by rfl, ?hea23⟩) (Below.refl _ _) ?rea23
        case hea23 =>
          intro w hSw
          go_simp
          try with_reducible rfl
        (try simp only [Act.put, List.setIfInBounds_toArray, List.set_cons_zero, List.set_cons_succ])
        refine wpAnyH_done (by kernel_rfl) ?_ _
        refine NoPanic.normal ?_
        go_wp2
        go_ret
        exact ⟨by simp, kb⟩
      · have h1' : ¬((k : Int) < (cnt : Int)) := by omega
        go_upto_region 27 with (fail)
        (try simp only [Act.put, List.setIfInBounds_toArray, List.set_cons_zero, List.set_cons_succ])
        have hdrew : Below wr.heap.size wr wr.drew := (Below.refl _ _).drew
        replace kn := kn.still hdrew
        replace km := km.still hdrew
        replace kz := kz.still hdrew
        replace kb := below_next kb hdrew
        clear hdrew
        refine wp_region_noPanic ?_
        refine wp_region_held_drew (S := fun w' => Below wr.drew.heap.size wr.drew w') (by kernel_rfl) (Below.refl _ _) (fun hHeld => ?_)
        clear hHeld
        refine wpAnyH_take (i := 0) (oi := { dst := some 101, op := Op.move (Operand.tmp 6), type := 24, pos := "law.go:185", after := #[], guard := none }) (v := ?veb0) rfl (by kernel_rfl) (by kernel_rfl) (by kernel_rfl) (fun _ _ _ h => h) (Or.inl ⟨by rfl, ?heb0⟩) (Below.refl _ _) ?reb0
        case heb0 =>
          intro w hSw
          go_simp
          try with_reducible rfl
        (try simp only [Act.put, List.setIfInBounds_toArray, List.set_cons_zero, List.set_cons_succ])
        refine wpAnyH_ready (rs := [1]) (by kernel_rfl) (by simp) ?_
        refine AllReadyH.cons (o := { dst := some 102, op := Op.call { callee := Callee.value (Operand.func 17), args := #[Operand.tmp 101], argTypes := #[24] }, type := 3, pos := "law.go:185", after := #[{ on := 0, ground := Ground.data }], guard := none }) rfl (fun K hK => ?_) AllReadyH.nil
        go_simp
        (go_at_call 17; refine (num3_any _ _).mono ?_; rintro e wn ⟨rfl, hwn⟩; subst hwn)
        (try go_simp)
        refine hK.out _ _ (Below.refl _ _) (fun h => ?_)
        clear h hK K
        (try simp only [Act.put, List.setIfInBounds_toArray, List.set_cons_zero, List.set_cons_succ])
        refine wpAnyH_take (i := 2) (oi := { dst := some 103, op := Op.binOp BinOp.eql 3 (Operand.tmp 102) (Operand.const (Value.int IntKind.i64 0)) 3, type := 4, pos := "law.go:185", after := #[{ on := 1, ground := Ground.data }], guard := none }) (v := ?veb2) rfl (by kernel_rfl) (by kernel_rfl) (by kernel_rfl) (fun _ _ _ h => h) (Or.inl ⟨by rfl, ?heb2⟩) (Below.refl _ _) ?reb2
        case heb2 =>
          intro w hSw
          go_simp
          try with_reducible rfl
        (try simp only [Act.put, List.setIfInBounds_toArray, List.set_cons_zero, List.set_cons_succ])
        refine wpAnyH_take (i := 3) (oi := { dst := some 104, op := Op.move (Operand.tmp 103), type := 4, pos := "law.go:185", after := #[{ on := 2, ground := Ground.data }, { on := 1, ground := Ground.chain }], guard := none }) (v := ?veb3) rfl (by kernel_rfl) (by kernel_rfl) (by kernel_rfl) (fun _ _ _ h => h) (Or.inl ⟨by rfl, ?heb3⟩) (Below.refl _ _) ?reb3
        case heb3 =>
          intro w hSw
          go_simp
          try with_reducible rfl
        (try simp only [Act.put, List.setIfInBounds_toArray, List.set_cons_zero, List.set_cons_succ])
        refine wpAnyH_take (i := 4) (oi := { dst := some 105, op := Op.load 46 (Operand.tmp 5), type := 46, pos := "law.go:185", after := #[{ on := 3, ground := Ground.guard }], guard := some (3, true) }) (v := numV x) rfl (by kernel_rfl) (by kernel_rfl) (by kernel_rfl) (fun _ _ _ h => h) (yieldsIf_load_mid (by rfl) 46 _ rfl g5 0 rfl (c4 x) _ (fun _ h => (kn.still h).range) Try.underlying46 rfl info4) (Below.refl _ _) ?_
        (try simp only [Act.put, List.setIfInBounds_toArray, List.set_cons_zero, List.set_cons_succ])
        refine wpAnyH_take (i := 7) (oi := { dst := some 108, op := Op.load 52 (Operand.tmp 8), type := 52, pos := "law.go:185", after := #[{ on := 3, ground := Ground.guard }], guard := some (3, true) }) (v := rV L) rfl (by kernel_rfl) (by kernel_rfl) (by kernel_rfl) (fun _ _ _ h => h) (yieldsIf_load_mid (by rfl) 52 _ rfl g8 0 rfl (i16 L) _ (fun _ h => (km.still h).range) Try.underlying52 rfl (infoI _)) (Below.refl _ _) ?_
        (try simp only [Act.put, List.setIfInBounds_toArray, List.set_cons_zero, List.set_cons_succ])
        refine wpAnyH_ready (rs := [5]) (by kernel_rfl) (by simp) ?_
        refine AllReadyH.cons (o := { dst := some 106, op := Op.call { callee := Callee.value (Operand.func 31), args := #[Operand.tmp 105], argTypes := #[46] }, type := 22, pos := "law.go:185", after := #[{ on := 4, ground := Ground.data }, { on := 3, ground := Ground.chain }, { on := 3, ground := Ground.guard }], guard := some (3, true) }) rfl (fun K hK => ?_) AllReadyH.nil
        go_simp
        (go_at_call 31; refine (cb31 _).mono ?_; clear cb31; rintro e w31 ⟨g31, rfl, hg31, hr31, hb31⟩; (have t31 := (Str.of (n := 32) (X := byt x) (.inr ⟨g31, 0, 32, rfl, block_lt_of_cell (hr31 0 (by decide)).1, Nat.le_refl _, fun j hj => (hr31 j hj).1⟩) (byt_all x))); clear hg31 hr31)
        (try go_simp)
        refine hK.out _ _ hb31 (fun h => ?_)
        clear h hK K
        refine wpAnyH_narrow (S' := fun w' => Below w31.heap.size w31 w') (fun _ h => below_next hb31 h) _ _ _ _ ?_
        clear kn
        replace km := km.still hb31
        replace kz := kz.still hb31
        replace kb := below_next kb hb31
        clear hb31
        (try simp only [Act.put, List.setIfInBounds_toArray, List.set_cons_zero, List.set_cons_succ])
        refine wpAnyH_take (i := 6) (oi := { dst := some 107, op := Op.convert 22 9 (Operand.tmp 106), type := 9, pos := "law.go:185", after := #[{ on := 5, ground := Ground.data }, { on := 3, ground := Ground.guard }], guard := some (3, true) }) (v := ?veb6) rfl (by kernel_rfl) (by kernel_rfl) (by kernel_rfl) (fun _ _ _ h => h) (Or.inl ⟨by rfl, ?heb6⟩) (Below.refl _ _) ?reb6
        case heb6 =>
          intro w hSw
          have q := t31.conv w hSw
          go_simp
          try with_reducible rfl
        (try simp only [Act.put, List.setIfInBounds_toArray, List.set_cons_zero, List.set_cons_succ])
        refine wpAnyH_ready (rs := [8]) (by kernel_rfl) (by simp) ?_
        refine AllReadyH.cons (o := { dst := some 109, op := Op.call { callee := Callee.value (Operand.func 43), args := #[Operand.tmp 108], argTypes := #[52] }, type := 22, pos := "law.go:185", after := #[{ on := 7, ground := Ground.data }, { on := 5, ground := Ground.chain }, { on := 3, ground := Ground.guard }], guard := some (3, true) }) rfl (fun K hK => ?_) AllReadyH.nil
        go_simp
        (go_at_call 43; refine (cr _).mono ?_; clear cr; rintro e w32 ⟨v32, rfl, own32, hb32⟩; (have t32 := Str.of (BytesIn.of_own own32) (byt_all x)); (obtain ⟨x32, n32, k32, rfl⟩ := t32.form); clear own32)
        (try go_simp)
        refine hK.out _ _ hb32 (fun h => ?_)
        clear h hK K
        refine wpAnyH_narrow (S' := fun w' => Below w32.heap.size w32 w') (fun _ h => below_next hb32 h) _ _ _ _ ?_
        clear km
        replace kz := kz.still hb32
        replace t31 := t31.still hb32
        replace kb := below_next kb hb32
        clear hb32
        (try simp only [Act.put, List.setIfInBounds_toArray, List.set_cons_zero, List.set_cons_succ])
        refine wpAnyH_take (i := 9) (oi := { dst := some 110, op := Op.convert 22 9 (Operand.tmp 109), type := 9, pos := "law.go:185", after := #[{ on := 8, ground := Ground.data }, { on := 3, ground := Ground.guard }], guard := some (3, true) }) (v := ?veb9) rfl (by kernel_rfl) (by kernel_rfl) (by kernel_rfl) (fun _ _ _ h => h) (Or.inl ⟨by rfl, ?heb9⟩) (Below.refl _ _) ?reb9
        case heb9 =>
          intro w hSw
          have q := t32.conv w hSw
          go_simp
          try with_reducible rfl
        (try simp only [Act.put, List.setIfInBounds_toArray, List.set_cons_zero, List.set_cons_succ])
        refine wpAnyH_take (i := 10) (oi := { dst := some 111, op := Op.binOp BinOp.eql 9 (Operand.tmp 107) (Operand.tmp 110) 9, type := 4, pos := "law.go:185", after := #[{ on := 6, ground := Ground.data }, { on := 9, ground := Ground.data }, { on := 3, ground := Ground.guard }], guard := some (3, true) }) (v := ?veb10) rfl (by kernel_rfl) (by kernel_rfl) (by kernel_rfl) (fun _ _ _ h => h) (Or.inl ⟨by rfl, ?heb10⟩) (Below.refl _ _) ?reb10
        case heb10 =>
          intro w hSw
          go_simp
          try with_reducible rfl
        (try simp only [Act.put, List.setIfInBounds_toArray, List.set_cons_zero, List.set_cons_succ])
        refine wpAnyH_take (i := 11) (oi := { dst := some 112, op := Op.pick (Operand.tmp 104) (Operand.tmp 111) (Operand.const (Value.bool false)), type := 4, pos := "law.go:185", after := #[{ on := 3, ground := Ground.data }, { on := 10, ground := Ground.data }], guard := none }) (v := ?veb11) rfl (by kernel_rfl) (by kernel_rfl) (by kernel_rfl) (fun _ _ _ h => h) (Or.inl ⟨by rfl, ?heb11⟩) (Below.refl _ _) ?reb11
        case heb11 =>
          intro w hSw
          go_simp
          try with_reducible rfl
        (try simp only [Act.put, List.setIfInBounds_toArray, List.set_cons_zero, List.set_cons_succ])
        refine wpAnyH_take (i := 12) (oi := { dst := some 113, op := Op.move (Operand.tmp 112), type := 4, pos := "law.go:185", after := #[{ on := 11, ground := Ground.data }, { on := 8, ground := Ground.chain }], guard := none }) (v := ?veb12) rfl (by kernel_rfl) (by kernel_rfl) (by kernel_rfl) (fun _ _ _ h => h) (Or.inl ⟨by rfl, ?heb12⟩) (Below.refl _ _) ?reb12
        case heb12 =>
          intro w hSw
          go_simp
          try with_reducible rfl
        (try simp only [Act.put, List.setIfInBounds_toArray, List.set_cons_zero, List.set_cons_succ])
        refine wpAnyH_take (i := 13) (oi := { dst := some 114, op := Op.load 46 (Operand.tmp 7), type := 46, pos := "law.go:185", after := #[{ on := 12, ground := Ground.guard }], guard := some (12, true) }) (v := numV 0) rfl (by kernel_rfl) (by kernel_rfl) (by kernel_rfl) (fun _ _ _ h => h) (yieldsIf_load_mid (by rfl) 46 _ rfl g7 0 rfl (c4 0) _ (fun _ h => (kz.still h).range) Try.underlying46 rfl info4) (Below.refl _ _) ?_
        (try simp only [Act.put, List.setIfInBounds_toArray, List.set_cons_zero, List.set_cons_succ])
        refine wpAnyH_ready (rs := [14]) (by kernel_rfl) (by simp) ?_
        refine AllReadyH.cons (o := { dst := some 115, op := Op.call { callee := Callee.value (Operand.func 31), args := #[Operand.tmp 114], argTypes := #[46] }, type := 22, pos := "law.go:185", after := #[{ on := 13, ground := Ground.data }, { on := 12, ground := Ground.chain }, { on := 12, ground := Ground.guard }], guard := some (12, true) }) rfl (fun K hK => ?_) AllReadyH.nil
        go_simp
        (go_at_call 31; refine (cb33 _).mono ?_; clear cb33; rintro e w33 ⟨g33, rfl, hg33, hr33, hb33⟩; (have t33 := (Str.of (n := 32) (X := byt 0) (.inr ⟨g33, 0, 32, rfl, block_lt_of_cell (hr33 0 (by decide)).1, Nat.le_refl _, fun j hj => (hr33 j hj).1⟩) (byt_all 0))); clear hg33 hr33)
        (try go_simp)
        refine hK.out _ _ hb33 (fun h => ?_)
        clear h hK K
        refine wpAnyH_narrow (S' := fun w' => Below w33.heap.size w33 w') (fun _ h => below_next hb33 h) _ _ _ _ ?_
        clear kz
        replace t31 := t31.still hb33
        replace t32 := t32.still hb33
        replace kb := below_next kb hb33
        clear hb33
        (try simp only [Act.put, List.setIfInBounds_toArray, List.set_cons_zero, List.set_cons_succ])
        refine wpAnyH_take (i := 15) (oi := { dst := some 116, op := Op.convert 22 9 (Operand.tmp 115), type := 9, pos := "law.go:185", after := #[{ on := 14, ground := Ground.data }, { on := 12, ground := Ground.guard }], guard := some (12, true) }) (v := ?veb15) rfl (by kernel_rfl) (by kernel_rfl) (by kernel_rfl) (fun _ _ _ h => h) (Or.inl ⟨by rfl, ?heb15⟩) (Below.refl _ _) ?reb15
        case heb15 =>
          intro w hSw
          have q := t33.conv w hSw
          go_simp
          try with_reducible rfl
        (try simp only [Act.put, List.setIfInBounds_toArray, List.set_cons_zero, List.set_cons_succ])
        refine wpAnyH_ready (rs := [16]) (by kernel_rfl) (by simp) ?_
        refine AllReadyH.cons (o := { dst := some 117, op := Op.call { callee := Callee.value (Operand.func 26), args := #[Operand.const (Value.int IntKind.u8 0)], argTypes := #[5] }, type := 22, pos := "law.go:185", after := #[{ on := 14, ground := Ground.chain }, { on := 12, ground := Ground.guard }], guard := some (12, true) }) rfl (fun K hK => ?_) AllReadyH.nil
        go_simp
        (go_at_call 26; refine (c0 _).mono ?_; clear c0; rintro e w34 ⟨s34, rfl, hn34, hb34⟩; (have t34 := hn34.str); obtain ⟨g34, rfl, -⟩ := hn34)
        (try go_simp)
        refine hK.out _ _ hb34 (fun h => ?_)
        clear h hK K
        refine wpAnyH_narrow (S' := fun w' => Below w34.heap.size w34 w') (fun _ h => below_next hb34 h) _ _ _ _ ?_
        replace t31 := t31.still hb34
        replace t32 := t32.still hb34
        replace t33 := t33.still hb34
        replace kb := below_next kb hb34
        clear hb34
        (try simp only [Act.put, List.setIfInBounds_toArray, List.set_cons_zero, List.set_cons_succ])
        refine wpAnyH_take (i := 17) (oi := { dst := some 118, op := Op.convert 22 9 (Operand.tmp 117), type := 9, pos := "law.go:185", after := #[{ on := 16, ground := Ground.data }, { on := 12, ground := Ground.guard }], guard := some (12, true) }) (v := ?veb17) rfl (by kernel_rfl) (by kernel_rfl) (by kernel_rfl) (fun _ _ _ h => h) (Or.inl ⟨by rfl, ?heb17⟩) (Below.refl _ _) ?reb17
        case heb17 =>
          intro w hSw
          have q := t34.conv w hSw
          go_simp
          try with_reducible rfl
        (try simp only [Act.put, List.setIfInBounds_toArray, List.set_cons_zero, List.set_cons_succ])
        refine wpAnyH_take (i := 18) (oi := { dst := some 119, op := Op.binOp BinOp.eql 9 (Operand.tmp 116) (Operand.tmp 118) 9, type := 4, pos := "law.go:185", after := #[{ on := 15, ground := Ground.data }, { on := 17, ground := Ground.data }, { on := 12, ground := Ground.guard }], guard := some (12, true) }) (v := ?veb18) rfl (by kernel_rfl) (by kernel_rfl) (by kernel_rfl) (fun _ _ _ h => h) (Or.inl ⟨by rfl, ?heb18⟩) (Below.refl _ _) ?reb18
        case heb18 =>
          intro w hSw
          go_simp
          try with_reducible rfl
        (try simp only [Act.put, List.setIfInBounds_toArray, List.set_cons_zero, List.set_cons_succ])
        refine wpAnyH_take (i := 19) (oi := { dst := some 120, op := Op.pick (Operand.tmp 113) (Operand.tmp 119) (Operand.const (Value.bool false)), type := 4, pos := "law.go:185", after := #[{ on := 12, ground := Ground.data }, { on := 18, ground := Ground.data }], guard := none }) (v := ?veb19) rfl (by kernel_rfl) (by kernel_rfl) (by kernel_rfl) (fun _ _ _ h => h) (Or.inl ⟨by rfl, ?heb19⟩) (Below.refl _ _) ?reb19
        case heb19 =>
          intro w hSw
          go_simp
          try with_reducible rfl
        (try simp only [Act.put, List.setIfInBounds_toArray, List.set_cons_zero, List.set_cons_succ])
        refine wpAnyH_take (i := 20) (oi := { dst := some 121, op := Op.move (Operand.tmp 120), type := 4, pos := "law.go:185", after := #[{ on := 19, ground := Ground.data }, { on := 16, ground := Ground.chain }], guard := none }) (v := ?veb20) rfl (by kernel_rfl) (by kernel_rfl) (by kernel_rfl) (fun _ _ _ h => h) (Or.inl ⟨by rfl, ?heb20⟩) (Below.refl _ _) ?reb20
        case heb20 =>
          intro w hSw
          go_simp
          try with_reducible rfl
        (try simp only [Act.put, List.setIfInBounds_toArray, List.set_cons_zero, List.set_cons_succ])
        refine wpAnyH_ready (rs := [21]) (by kernel_rfl) (by simp) ?_
        refine AllReadyH.cons (o := { dst := some 122, op := Op.call { callee := Callee.value (Operand.func 19), args := #[], argTypes := #[] }, type := 4, pos := "law.go:185", after := #[{ on := 20, ground := Ground.chain }, { on := 20, ground := Ground.guard }], guard := some (20, true) }) rfl (fun K hK => ?_) AllReadyH.nil
        go_simp
        (go_at_call 19; refine (hkn _).mono ?_; clear hkn; rintro e w35 ⟨rfl, hb35⟩)
        (try go_simp)
        refine hK.out _ _ hb35 (fun h => ?_)
        clear h hK K
        refine wpAnyH_narrow (S' := fun w' => Below w35.heap.size w35 w') (fun _ h => below_next hb35 h) _ _ _ _ ?_
        replace t31 := t31.still hb35
        replace t32 := t32.still hb35
        replace t33 := t33.still hb35
        replace t34 := t34.still hb35
        replace kb := below_next kb hb35
        clear hb35
        (try simp only [Act.put, List.setIfInBounds_toArray, List.set_cons_zero, List.set_cons_succ])
        refine wpAnyH_take (i := 22) (oi := { dst := some 123, op := Op.pick (Operand.tmp 121) (Operand.tmp 122) (Operand.const (Value.bool false)), type := 4, pos := "law.go:185", after := #[{ on := 20, ground := Ground.data }, { on := 21, ground := Ground.data }], guard := none }) (v := ?veb22) rfl (by kernel_rfl) (by kernel_rfl) (by kernel_rfl) (fun _ _ _ h => h) (Or.inl ⟨by rfl, ?heb22⟩) (Below.refl _ _) ?reb22
        case heb22 =>
          intro w hSw
          go_simp
          try with_reducible rfl
        (try simp only [Act.put, List.setIfInBounds_toArray, List.set_cons_zero, List.set_cons_succ])
        refine wpAnyH_take (i := 23) (oi := { dst := some 4, op := Op.assign (Operand.tmp 123), type := 4, pos := "law.go:185", after := #[{ on := 22, ground := Ground.data }, { on := 21, ground := Ground.chain }, { on := 0, ground := Ground.phase }, { on := 1, ground := Ground.phase }, { on := 2, ground := Ground.phase }, { on := 3, ground := Ground.phase }, { on := 4, ground := Ground.phase }, { on := 5, ground := Ground.phase }, { on := 6, ground := Ground.phase }, { on := 7, ground := Ground.phase }, { on := 8, ground := Ground.phase }, { on := 9, ground := Ground.phase }, { on := 10, ground := Ground.phase }, { on := 11, ground := Ground.phase }, { on := 12, ground := Ground.phase }, { on := 13, ground := Ground.phase }, { on := 14, ground := Ground.phase }, { on := 15, ground := Ground.phase }, { on := 16, ground := Ground.phase }, { on := 17, ground := Ground.phase }, { on := 18, ground := Ground.phase }, { on := 19, ground := Ground.phase }, { on := 20, ground := Ground.phase }, { on := 21, ground := Ground.phase }, { on := 22, ground := Ground.phase }], guard := none }) (v := ?veb23) rfl (by kernel_rfl) (by kernel_rfl) (by kernel_rfl) (fun _ _ _ h => h) (Or.inl ⟨by rfl, ?heb23⟩) (Below.refl _ _) ?reb23
        case heb23 =>
          intro w hSw
          go_simp
          try with_reducible rfl
        (try simp only [Act.put, List.setIfInBounds_toArray, List.set_cons_zero, List.set_cons_succ])
        refine wpAnyH_done (by kernel_rfl) ?_ _
        refine NoPanic.normal ?_
        go_wp2
        go_ret
        exact ⟨by simp, kb⟩
end Go.Proofs.Ytinigkpidhbgcaa
