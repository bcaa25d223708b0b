/- The walk of the law FieldSwaps in the model. -/
import Derived.Test.YtinigkpidhbgcaaSums
namespace Go.Proofs.Ytinigkpidhbgcaa
open Go.RowKit
set_option maxRecDepth 20000 in
set_option maxHeartbeats 2000000 in
theorem swap_bad (yes : Bool) (v u : Value) (n m : Nat) (bs cs : Nat → Nat) (hbs : ∀ j, bs j < 256) (hcs : ∀ j, cs j < 256) (w : World) (hv : BytesIn w v n bs) (hu : BytesIn w u m cs) (hbad : ¬(n = 32 ∧ m = 32)) :
    Calls Try.prog 24 #[.bool yes, v, u] w fun e w' => e = .returned (.tuple #[.slice none 0 0, .slice none 0 0, .int .i64 1]) ∧ Below w.heap.size w w' := by
  have cb := both_bad v u n m bs cs hbs hcs w hv hu hbad
  obtain ⟨xv, kv, rfl, -⟩ := hv.src
  obtain ⟨xu, ku, rfl, -⟩ := hu.src
  rw [numV_zero] at cb
  clear hv hu hbad
  go_enter Try.func24, Try.ntmps24
  go_wp2_with (first
    | (go_at_call 44; refine cb.mono ?_; clear cb; rintro e w1 ⟨rfl, hb1⟩))
  go_ret3
  exact ⟨rfl, (hb1.alloc hb1.size _).alloc (by have := hb1.size; simp; omega) _⟩
set_option maxRecDepth 20000 in
set_option maxHeartbeats 2000000 in
theorem swap_true (v u : Value) (bs cs : Nat → Nat) (hbs : ∀ j, bs j < 256) (hcs : ∀ j, cs j < 256) (w : World) (hv : BytesIn w v 32 bs) (hu : BytesIn w u 32 cs) :
    Calls Try.prog 24 #[.bool true, v, u] w fun e w' => ∃ s t, e = .returned (.tuple #[s, t, .int .i64 0]) ∧ Str w' s (strB 32 (byt (ofB cs 32 % pF))) ∧ Str w' t (strB 32 (byt (ofB bs 32 % pF))) ∧ Below w.heap.size w w' := by
  have cb := both_good v u bs cs hbs hcs w hv hu
  obtain ⟨xv, kv, rfl, -⟩ := hv.src
  obtain ⟨xu, ku, rfl, -⟩ := hu.src
  obtain ⟨x, hxe⟩ : ∃ x, x = ofB bs 32 % pF := ⟨_, rfl⟩
  obtain ⟨y, hye⟩ : ∃ y, y = ofB cs 32 % pF := ⟨_, rfl⟩
  rw [← hxe] at cb ⊢
  rw [← hye] at cb ⊢
  have cq1 : ∀ W, _ := fun W => bytes_any y W
  have cq2 : ∀ W, _ := fun W => bytes_any x W
  obtain ⟨x0, x1, x2, x3, hxv⟩ := numV_ex x
  obtain ⟨y0, y1, y2, y3, hyv⟩ := numV_ex y
  rw [hxv, hyv] at cb
  rw [hyv] at cq1
  rw [hxv] at cq2
  clear hv hu hxe hye hxv hyv
  go_enter Try.func24, Try.ntmps24
  go_wp2_with (first
    | (go_at_call 44; refine cb.mono ?_; clear cb; rintro e w1 ⟨rfl, hb1⟩))
  obtain ⟨V, hV⟩ : ∃ V, V = (w1.alloc (.cells #[.int .u64 y0, .int .u64 y1, .int .u64 y2, .int .u64 y3] 46)).alloc (.cells #[.int .u64 x0, .int .u64 x1, .int .u64 x2, .int .u64 x3] 46) := ⟨_, rfl⟩
  rw [← hV]
  have A0 : FourAt V w1.heap.size (.int .u64 y0) (.int .u64 y1) (.int .u64 y2) (.int .u64 y3) := by rw [hV]; exact (four_fresh w1 _ _ _ _ _).below ((Below.refl _ _).alloc (Nat.le_refl _) _) (by simp)
  have B0 : FourAt V (w1.heap.size + 1) (.int .u64 x0) (.int .u64 x1) (.int .u64 x2) (.int .u64 x3) := by
    have := four_fresh (w1.alloc (.cells #[.int .u64 y0, .int .u64 y1, .int .u64 y2, .int .u64 y3] 46)) (.int .u64 x0) (.int .u64 x1) (.int .u64 x2) (.int .u64 x3) 46
    rw [World.size_alloc] at this
    rw [hV]; exact this
  have hVs : V.heap.size = w1.heap.size + 1 + 1 := by rw [hV]; simp
  have hbV : Below w.heap.size w V := by rw [hV]; exact (hb1.alloc hb1.size _).alloc (by have := hb1.size; simp; omega) _
  have hS : ∀ w' : World, Below (w1.heap.size + 1 + 1) V w' → ∀ b o, b < w1.heap.size + 1 + 1 → w'.cell? ⟨b, o, none⟩ = V.cell? ⟨b, o, none⟩ := fun w' h b o hb => h.cell (p := ⟨b, o, none⟩) hb
  have hb0 : Below (w1.heap.size + 1 + 1) V V.drew := (Below.refl _ _).drew
  have hs0 : w1.heap.size + 1 + 1 ≤ V.drew.heap.size := by show _ ≤ V.heap.size; omega
  obtain ⟨a0, a1, a2, a3, -, -, -, -⟩ := A0
  obtain ⟨b0, b1, b2, b3, -, -, -, -⟩ := B0
  clear hV
  go_region_held3 (fun w' => Below (w1.heap.size + 1 + 1) V w') (first | assumption) (first
    | (go_at_call 31; refine (cq1 _).mono ?_; clear cq1; rintro e w3 ⟨g3, rfl, hg3, hr3, hb3⟩; (have hb03 : Below (w1.heap.size + 1 + 1) V w3 := hb0.trans (hb3.mono hs0)); (have hs3 : w1.heap.size + 1 + 1 ≤ w3.heap.size := Nat.le_trans hs0 hb3.size))
    | (go_at_call 31; refine (cq2 _).mono ?_; clear cq2; rintro e w4 ⟨g4, rfl, hg4, hr4, hb4⟩; (have hb04 : Below (w1.heap.size + 1 + 1) V w4 := hb03.trans (hb4.mono hs3))))
  go_wp2
  go_ret3
  have s3 : Str w3 (.slice (some ⟨g3, 0, none⟩) 32 32) (strB 32 (byt y)) := NewB.str (w := V) ⟨g3, rfl, hg3, hr3⟩
  exact ⟨_, _, rfl, s3.still hb4, NewB.str (w := w3) ⟨g4, rfl, hg4, hr4⟩, hbV.trans (hb04.mono (by have := hbV.size; omega))⟩
set_option maxRecDepth 20000 in
set_option maxHeartbeats 2000000 in
theorem swap_false (v u : Value) (bs cs : Nat → Nat) (hbs : ∀ j, bs j < 256) (hcs : ∀ j, cs j < 256) (w : World) (hv : BytesIn w v 32 bs) (hu : BytesIn w u 32 cs) :
    Calls Try.prog 24 #[.bool false, v, u] w fun e w' => ∃ s t, e = .returned (.tuple #[s, t, .int .i64 0]) ∧ Str w' s (strB 32 (byt (ofB bs 32 % pF))) ∧ Str w' t (strB 32 (byt (ofB cs 32 % pF))) ∧ Below w.heap.size w w' := by
  have cb := both_good v u bs cs hbs hcs w hv hu
  obtain ⟨xv, kv, rfl, -⟩ := hv.src
  obtain ⟨xu, ku, rfl, -⟩ := hu.src
  obtain ⟨x, hxe⟩ : ∃ x, x = ofB bs 32 % pF := ⟨_, rfl⟩
  obtain ⟨y, hye⟩ : ∃ y, y = ofB cs 32 % pF := ⟨_, rfl⟩
  rw [← hxe] at cb ⊢
  rw [← hye] at cb ⊢
  have cq1 : ∀ W, _ := fun W => bytes_any x W
  have cq2 : ∀ W, _ := fun W => bytes_any y W
  obtain ⟨x0, x1, x2, x3, hxv⟩ := numV_ex x
  obtain ⟨y0, y1, y2, y3, hyv⟩ := numV_ex y
  rw [hxv, hyv] at cb
  rw [hxv] at cq1
  rw [hyv] at cq2
  clear hv hu hxe hye hxv hyv
  go_enter Try.func24, Try.ntmps24
  go_wp2_with (first
    | (go_at_call 44; refine cb.mono ?_; clear cb; rintro e w1 ⟨rfl, hb1⟩))
  obtain ⟨V, hV⟩ : ∃ V, V = (w1.alloc (.cells #[.int .u64 x0, .int .u64 x1, .int .u64 x2, .int .u64 x3] 46)).alloc (.cells #[.int .u64 y0, .int .u64 y1, .int .u64 y2, .int .u64 y3] 46) := ⟨_, rfl⟩
  rw [← hV]
  have A0 : FourAt V w1.heap.size (.int .u64 x0) (.int .u64 x1) (.int .u64 x2) (.int .u64 x3) := by rw [hV]; exact (four_fresh w1 _ _ _ _ _).below ((Below.refl _ _).alloc (Nat.le_refl _) _) (by simp)
  have B0 : FourAt V (w1.heap.size + 1) (.int .u64 y0) (.int .u64 y1) (.int .u64 y2) (.int .u64 y3) := by
    have := four_fresh (w1.alloc (.cells #[.int .u64 x0, .int .u64 x1, .int .u64 x2, .int .u64 x3] 46)) (.int .u64 y0) (.int .u64 y1) (.int .u64 y2) (.int .u64 y3) 46
    rw [World.size_alloc] at this
    rw [hV]; exact this
  have hVs : V.heap.size = w1.heap.size + 1 + 1 := by rw [hV]; simp
  have hbV : Below w.heap.size w V := by rw [hV]; exact (hb1.alloc hb1.size _).alloc (by have := hb1.size; simp; omega) _
  have hS : ∀ w' : World, Below (w1.heap.size + 1 + 1) V w' → ∀ b o, b < w1.heap.size + 1 + 1 → w'.cell? ⟨b, o, none⟩ = V.cell? ⟨b, o, none⟩ := fun w' h b o hb => h.cell (p := ⟨b, o, none⟩) hb
  have hb0 : Below (w1.heap.size + 1 + 1) V V.drew := (Below.refl _ _).drew
  have hs0 : w1.heap.size + 1 + 1 ≤ V.drew.heap.size := by show _ ≤ V.heap.size; omega
  obtain ⟨a0, a1, a2, a3, -, -, -, -⟩ := A0
  obtain ⟨b0, b1, b2, b3, -, -, -, -⟩ := B0
  clear hV
  go_region_held3 (fun w' => Below (w1.heap.size + 1 + 1) V w') (first | assumption) (first
    | (go_at_call 31; refine (cq1 _).mono ?_; clear cq1; rintro e w3 ⟨g3, rfl, hg3, hr3, hb3⟩; (have hb03 : Below (w1.heap.size + 1 + 1) V w3 := hb0.trans (hb3.mono hs0)); (have hs3 : w1.heap.size + 1 + 1 ≤ w3.heap.size := Nat.le_trans hs0 hb3.size))
    | (go_at_call 31; refine (cq2 _).mono ?_; clear cq2; rintro e w4 ⟨g4, rfl, hg4, hr4, hb4⟩; (have hb04 : Below (w1.heap.size + 1 + 1) V w4 := hb03.trans (hb4.mono hs3))))
  go_wp2
  go_ret3
  have s3 : Str w3 (.slice (some ⟨g3, 0, none⟩) 32 32) (strB 32 (byt x)) := NewB.str (w := V) ⟨g3, rfl, hg3, hr3⟩
  exact ⟨_, _, rfl, s3.still hb4, NewB.str (w := w3) ⟨g4, rfl, hg4, hr4⟩, hbV.trans (hb04.mono (by have := hbV.size; omega))⟩
set_option maxRecDepth 20000 in
set_option maxHeartbeats 4000000 in
theorem fieldSwaps_any (yes : Bool) (a b : Value) (n m : Nat) (bs cs : Nat → Nat) (hbs : ∀ j, bs j < 256) (hcs : ∀ j, cs j < 256) (w : World) (ha : BytesIn w a n bs) (hb : BytesIn w b m cs) (hn : n < 140737488355000) (hm : m < 140737488355000) :
    Calls Try.prog 6 #[.bool yes, a, b] w fun e w' => e = .returned (.bool true) ∧ Below w.heap.size w w' := by
  have cl1 := lent_any a n bs w ha hn
  have cl2 := fun W (h : Below w.heap.size w W) => lent_any b m cs W (hb.still h) hm
  have hk := fun W => knows3_any W
  by_cases hgood : n = 32 ∧ m = 32
  · obtain ⟨rfl, rfl⟩ := hgood
    have cc1 := fun W (h : Below w.heap.size w W) => rcanon_good a bs hbs W (ha.still h)
    have cc2 := fun W (h : Below w.heap.size w W) => rcanon_good b cs hcs W (hb.still h)
    have ct := fun W v u => swap_true v u bs cs hbs hcs W
    have cf := fun W v u => swap_false v u bs cs hbs hcs W
    obtain ⟨xa, ca, rfl, -⟩ := ha.src
    obtain ⟨xb, cb, rfl, -⟩ := hb.src
    clear ha hb
    cases yes
    · clear ct
      go_enter Try.func6, Try.ntmps6
      go_wp2_with (first
        | (go_at_call 10; refine cl1.mono ?_; clear cl1; rintro e w1 ⟨g1, k1, rfl, hk1, hg1, hr1, hb1⟩; replace cl2 := cl2 w1 hb1)
        | (go_at_call 10; refine cl2.mono ?_; clear cl2; rintro e w2 ⟨g2, k2, rfl, hk2, hg2, hr2, hb2⟩; (have hr1' := hr1.below hb2 (block_lt_of_cell (hr1 0 (by omega)).1)); (have hbw2 := hb1.trans (hb2.mono hb1.size)); replace cf := cf w2 _ _ (lent_bytes hr1' hk1) (lent_bytes hr2 hk2); clear hr1 hb1 hb2)
        | (go_at_call 24; refine cf.mono ?_; clear cf; rintro e w3 ⟨s, t, rfl, hs3, ht3, hb3⟩; obtain ⟨⟨sx, sn, sc, rfl⟩, hsc⟩ := hs3; obtain ⟨⟨tx, tn, tc, rfl⟩, htc⟩ := ht3; (have hbw3 := hbw2.trans (hb3.mono hbw2.size)); replace cc1 := cc1 w3 hbw3)
        | (go_at_call 16; refine cc1.mono ?_; clear cc1; rintro e w4 ⟨c4, rfl, hc4, hb4⟩; obtain ⟨⟨cx, cn, cc, rfl⟩, hcc⟩ := Str.of hc4 (byt_all _); (have hbw4 := hbw3.trans (hb4.mono hbw3.size)); replace cc2 := cc2 w4 hbw4)
        | (go_at_call 16; refine cc2.mono ?_; clear cc2; rintro e w5 ⟨d5, rfl, hd5, hb5⟩; obtain ⟨⟨dx, dn, dc, rfl⟩, hdc⟩ := Str.of hd5 (byt_all _); (have hbw5 := hbw4.trans (hb5.mono hbw4.size)); (have hb35 := hb4.trans (hb5.mono hb4.size)); replace hsc := hsc w5 hb35; replace htc := htc w5 hb35; replace hcc := hcc w5 hb5; replace hdc := hdc w5 (Below.refl _ _))
        | (go_at_call 17; refine (num3_any _ _).mono ?_; rintro e wn ⟨rfl, hwn⟩; subst hwn)
        | (go_at_call 19; refine (hk _).mono ?_; rintro e w11 ⟨rfl, hb11⟩; (have hbw11 := hbw5.trans (hb11.mono hbw5.size))))
      go_ret
      exact ⟨rfl, hbw11⟩
    · clear cf
      go_enter Try.func6, Try.ntmps6
      go_wp2_with (first
        | (go_at_call 10; refine cl1.mono ?_; clear cl1; rintro e w1 ⟨g1, k1, rfl, hk1, hg1, hr1, hb1⟩; replace cl2 := cl2 w1 hb1)
        | (go_at_call 10; refine cl2.mono ?_; clear cl2; rintro e w2 ⟨g2, k2, rfl, hk2, hg2, hr2, hb2⟩; (have hr1' := hr1.below hb2 (block_lt_of_cell (hr1 0 (by omega)).1)); (have hbw2 := hb1.trans (hb2.mono hb1.size)); replace ct := ct w2 _ _ (lent_bytes hr1' hk1) (lent_bytes hr2 hk2); clear hr1 hb1 hb2)
        | (go_at_call 24; refine ct.mono ?_; clear ct; rintro e w3 ⟨s, t, rfl, hs3, ht3, hb3⟩; obtain ⟨⟨sx, sn, sc, rfl⟩, hsc⟩ := hs3; obtain ⟨⟨tx, tn, tc, rfl⟩, htc⟩ := ht3; (have hbw3 := hbw2.trans (hb3.mono hbw2.size)); replace cc1 := cc1 w3 hbw3)
        | (go_at_call 16; refine cc1.mono ?_; clear cc1; rintro e w4 ⟨c4, rfl, hc4, hb4⟩; obtain ⟨⟨cx, cn, cc, rfl⟩, hcc⟩ := Str.of hc4 (byt_all _); (have hbw4 := hbw3.trans (hb4.mono hbw3.size)); replace cc2 := cc2 w4 hbw4)
        | (go_at_call 16; refine cc2.mono ?_; clear cc2; rintro e w5 ⟨d5, rfl, hd5, hb5⟩; obtain ⟨⟨dx, dn, dc, rfl⟩, hdc⟩ := Str.of hd5 (byt_all _); (have hbw5 := hbw4.trans (hb5.mono hbw4.size)); (have hb35 := hb4.trans (hb5.mono hb4.size)); replace hsc := hsc w5 hb35; replace htc := htc w5 hb35; replace hcc := hcc w5 hb5; replace hdc := hdc w5 (Below.refl _ _))
        | (go_at_call 17; refine (num3_any _ _).mono ?_; rintro e wn ⟨rfl, hwn⟩; subst hwn)
        | (go_at_call 19; refine (hk _).mono ?_; rintro e w11 ⟨rfl, hb11⟩; (have hbw11 := hbw5.trans (hb11.mono hbw5.size))))
      go_ret
      exact ⟨rfl, hbw11⟩
  · have cs' := fun W v u hv hu => swap_bad yes v u n m bs cs hbs hcs W hv hu hgood
    by_cases hn32 : n = 32
    · have hm32 : ¬m = 32 := fun h => hgood ⟨hn32, h⟩
      subst hn32
      have cc1 := fun W (h : Below w.heap.size w W) => rcanon_good a bs hbs W (ha.still h)
      obtain ⟨xa, ca, rfl, -⟩ := ha.src
      obtain ⟨xb, cb, rfl, -⟩ := hb.src
      have cc2 := fun W => rcanon_bad xb m cb W hm32
      clear ha hb hgood hm32
      go_enter Try.func6, Try.ntmps6
      go_wp2_with (first
        | (go_at_call 10; refine cl1.mono ?_; clear cl1; rintro e w1 ⟨g1, k1, rfl, hk1, hg1, hr1, hb1⟩; replace cl2 := cl2 w1 hb1)
        | (go_at_call 10; refine cl2.mono ?_; clear cl2; rintro e w2 ⟨g2, k2, rfl, hk2, hg2, hr2, hb2⟩; (have hr1' := hr1.below hb2 (block_lt_of_cell (hr1 0 (by omega)).1)); (have hbw2 := hb1.trans (hb2.mono hb1.size)); replace cs' := cs' w2 _ _ (lent_bytes hr1' hk1) (lent_bytes hr2 hk2); clear hr1 hb1 hb2)
        | (go_at_call 24; refine cs'.mono ?_; clear cs'; rintro e w3 ⟨rfl, hb3⟩; (have hbw3 := hbw2.trans (hb3.mono hbw2.size)); replace cc1 := cc1 w3 hbw3)
        | (go_at_call 16; refine cc1.mono ?_; clear cc1; rintro e w4 ⟨c4, rfl, hc4, hb4⟩; obtain ⟨⟨cx, cn, cc, rfl⟩, hcc⟩ := Str.of hc4 (byt_all _); (have hbw4 := hbw3.trans (hb4.mono hbw3.size)); replace cc2 := cc2 w4)
        | (go_at_call 16; refine cc2.mono ?_; clear cc2; rintro e w5 ⟨rfl, hw5⟩; subst hw5)
        | (go_at_call 17; refine (num3_any _ _).mono ?_; rintro e wn ⟨rfl, hwn⟩; subst hwn)
        | (go_at_call 19; refine (hk _).mono ?_; rintro e w11 ⟨rfl, hb11⟩; (have hbw11 := hbw4.trans (hb11.mono hbw4.size))))
      go_ret
      exact ⟨rfl, hbw11⟩
    · obtain ⟨xa, ca, rfl, -⟩ := ha.src
      have cc1 := fun W => rcanon_bad xa n ca W hn32
      have cc2 : ∀ W, Below w.heap.size w W → Calls Try.prog 16 #[b] W fun e w' => ∃ s er, e = .returned (.tuple #[s, .int .i64 er]) ∧ Below W.heap.size W w' := fun W h => by
        by_cases hm32 : m = 32
        · subst hm32
          exact (rcanon_good b cs hcs W (hb.still h)).mono fun e w' ⟨s, he, _, hbb⟩ => ⟨s, 0, he, hbb⟩
        · obtain ⟨xb, cb, rfl, -⟩ := hb.src
          exact (rcanon_bad xb m cb W hm32).mono fun e w' ⟨he, hw⟩ => ⟨_, 1, he, by rw [hw]; exact Below.refl _ _⟩
      obtain ⟨xb, cb, rfl, -⟩ := hb.src
      clear ha hb hgood hn32
      go_enter Try.func6, Try.ntmps6
      go_wp2_with (first
        | (go_at_call 10; refine cl1.mono ?_; clear cl1; rintro e w1 ⟨g1, k1, rfl, hk1, hg1, hr1, hb1⟩; replace cl2 := cl2 w1 hb1)
        | (go_at_call 10; refine cl2.mono ?_; clear cl2; rintro e w2 ⟨g2, k2, rfl, hk2, hg2, hr2, hb2⟩; (have hr1' := hr1.below hb2 (block_lt_of_cell (hr1 0 (by omega)).1)); (have hbw2 := hb1.trans (hb2.mono hb1.size)); replace cs' := cs' w2 _ _ (lent_bytes hr1' hk1) (lent_bytes hr2 hk2); clear hr1 hb1 hb2)
        | (go_at_call 24; refine cs'.mono ?_; clear cs'; rintro e w3 ⟨rfl, hb3⟩; (have hbw3 := hbw2.trans (hb3.mono hbw2.size)); replace cc1 := cc1 w3; replace cc2 := cc2 w3 hbw3)
        | (go_at_call 16; refine cc1.mono ?_; clear cc1; rintro e w4 ⟨rfl, hw4⟩; subst hw4)
        | (go_at_call 16; refine cc2.mono ?_; clear cc2; rintro e w5 ⟨s5, er, rfl, hb5⟩; (have hbw5 := hbw3.trans (hb5.mono hbw3.size)))
        | (go_at_call 17; refine (num3_any _ _).mono ?_; rintro e wn ⟨rfl, hwn⟩; subst hwn)
        | (go_at_call 19; refine (hk _).mono ?_; rintro e w11 ⟨rfl, hb11⟩; (have hbw11 := hbw5.trans (hb11.mono hbw5.size))))
      go_ret
      exact ⟨rfl, hbw11⟩
end Go.Proofs.Ytinigkpidhbgcaa
