/- What Canon, Add, Sub and Mul of the reference do in the model. -/
import Derived.Test.YtinigkpidhbgcaaRefBytes
import Derived.Test.YtinigkpidhbgcaaRefTimes2
namespace Go.Proofs.Ytinigkpidhbgcaa
open Go.RowKit
/-- The bytes of canonical limbs are those of the number mod p. -/
theorem bytL_canL (L : Nat → Int) (hL : Dig 9007199254740992 L) (j : Nat) (hj : j < 32) : bytL (canL L) j = byt (valR L 16 % (pF : Int)).toNat j := by
  obtain ⟨-, hn, hv⟩ := canL_nrm L hL
  have h1 : valR (canL L) 16 = ((ofB (fun j => if j < 32 then bytL (canL L) j else 0) 32 : Nat) : Int) := by
    rw [← valR_from _ 16]
    refine valR_congr 16 (fun i hi => ?_)
    rw [← fromL_bytL hn i hi]
    unfold fromL
    show _ = (((if 2 * i < 32 then bytL (canL L) (2 * i) else 0 : Nat) : Int) + ((if 2 * i + 1 < 32 then bytL (canL L) (2 * i + 1) else 0 : Nat) : Int) * 256)
    rw [if_pos (show 2 * i < 32 by omega), if_pos (show 2 * i + 1 < 32 by omega)]
  rw [← hv, h1, Int.toNat_natCast, byt_ofB _ (fun j => by
    show (if j < 32 then bytL (canL L) j else 0) < 256
    by_cases e : j < 32
    · rw [if_pos e]; exact bytL_lt hn j e
    · rw [if_neg e]; decide) 32 j hj, if_pos hj]
theorem Dig.mono {R S : Int} {L : Nat → Int} (h : Dig R L) (hRS : R ≤ S) : Dig S L := ⟨by have := h.low; omega, h.dig⟩
theorem from_dig (bs : Nat → Nat) (hb : ∀ j, bs j < 256) : Dig 65535 (fromL bs) := ⟨by have := fromL_dig bs hb 0; omega, fun j _ _ => fromL_dig bs hb j⟩
/-- Bytes of a reference's number that lies mod p like n. -/
theorem rbytes (L : Nat → Int) (hL : Dig 9007199254740992 L) (n : Nat) (hn : valR L 16 % (pF : Int) = ((n % pF : Nat) : Int)) (w : World) :
    Calls Try.prog 43 #[refV L] w fun e w' => ∃ v, e = .returned v ∧ Own w.heap.size w' v 32 (byt (n % pF)) ∧ Below w.heap.size w w' :=
  (rbytes_any L hL w).mono fun e w' ⟨v, he, ho, hb⟩ => ⟨v, he, ho.congr (fun j hj => by rw [bytL_canL L hL j hj, hn, Int.toNat_natCast]), hb⟩
theorem length_any (x y : Option Addr) (n m c d : Nat) (w : World) : Calls Try.prog 45 #[.slice x n c, .slice y m d] w fun e w' => e = .returned (.bool (decide (n = 32 ∧ m = 32))) ∧ w' = w := by
  by_cases h1 : n = 32
  · subst h1
    by_cases h2 : m = 32
    · subst h2
      go_enter Try.func45, Try.ntmps45
      go_wp2
      go_ret
      exact ⟨rfl, rfl⟩
    · have h2' : ¬(m : Int) = 32 := by omega
      go_enter Try.func45, Try.ntmps45
      go_wp2
      go_ret
      refine ⟨?_, rfl⟩
      simp [h2, h2']
  · have h1' : ¬(n : Int) = 32 := by omega
    go_enter Try.func45, Try.ntmps45
    go_wp2
    go_ret
    refine ⟨?_, rfl⟩
    simp [h1]
theorem nat_mod (a : Nat) : ((a : Int) % (pF : Int)) = ((a % pF : Nat) : Int) := (Int.natCast_emod a pF).symm
theorem plus_mod (bs cs : Nat → Nat) : valR (carryL (fun j => fromL bs j + fromL cs j)) 16 % (pF : Int) = (((ofB bs 32 % pF + ofB cs 32 % pF) % pF : Nat) : Int) := by
  have e : valR (fun j => fromL bs j + fromL cs j) 16 = ((ofB bs 32 + ofB cs 32 : Nat) : Int) := by
    have := valR_lin (fromL bs) (fromL cs) 1 16
    simp only [Int.one_mul] at this
    rw [this, valR_from, valR_from]; rfl
  rw [valR_carry, e, show ∀ a b P : Int, a - b * 2 * P = a + P * (-(b * 2)) from fun a b P => by rw [Int.mul_neg, Int.mul_comm P]; omega, Int.add_mul_emod_self_left, nat_mod, ← Nat.add_mod]
theorem minus_mod (bs cs : Nat → Nat) : valR (carryL (fun j => fromL bs j - fromL cs j)) 16 % (pF : Int) = (((ofB bs 32 % pF + pF - ofB cs 32 % pF) % pF : Nat) : Int) := by
  have e : valR (fun j => fromL bs j - fromL cs j) 16 = (ofB bs 32 : Int) - (ofB cs 32 : Int) := by
    have := valR_lin (fromL bs) (fromL cs) (-1) 16
    simp only [Int.neg_mul, Int.one_mul, ← Int.sub_eq_add_neg] at this
    rw [this, valR_from, valR_from]
  rw [valR_carry, e, show ∀ a b P : Int, a - b * 2 * P = a + P * (-(b * 2)) from fun a b P => by rw [Int.mul_neg, Int.mul_comm P]; omega, Int.add_mul_emod_self_left, ← nat_mod]
  have hy : ofB cs 32 % pF < pF := Nat.mod_lt _ (by decide)
  have e1 : ((ofB bs 32 % pF + pF - ofB cs 32 % pF : Nat) : Int) = ((ofB bs 32 : Int) % pF) + pF - ((ofB cs 32 : Int) % pF) := by
    rw [nat_mod, nat_mod]; omega
  rw [e1, Int.add_sub_assoc, Int.add_emod, Int.emod_emod_of_dvd _ (Int.dvd_refl _), ← Int.add_emod]
  have e2 : ((ofB bs 32 : Int) + ((pF : Int) - (ofB cs 32 : Int) % pF)) = ((ofB bs 32 : Int) - (ofB cs 32 : Int)) + (pF : Int) * (1 + (ofB cs 32 : Int) / pF) := by
    have := Int.mul_ediv_add_emod (ofB cs 32 : Int) pF
    rw [Int.mul_add, Int.mul_one]
    omega
  rw [e2, Int.add_mul_emod_self_left]
theorem times_mod (bs cs : Nat → Nat) : valR (carryL (carryL (foldT (tP (fromL bs) (fromL cs) 15 16) 16))) 16 % (pF : Int) = ((ofB bs 32 % pF * (ofB cs 32 % pF) % pF : Nat) : Int) := by
  rw [valR_carry, valR_carry, foldT_val, tP_all, valR_from, valR_from, show ∀ a b c d P : Int, a - 2 * P * d - b * 2 * P - c * 2 * P = a + P * (-(2 * d) - b * 2 - c * 2) from fun a b c d P => by
    rw [Int.mul_sub, Int.mul_sub, Int.mul_neg, Int.mul_comm P (b * 2), Int.mul_comm P (c * 2), Int.mul_comm 2 P, Int.mul_assoc P 2 d]; omega, Int.add_mul_emod_self_left, ← Int.natCast_mul, nat_mod, ← Nat.mul_mod]
set_option maxRecDepth 20000 in
set_option maxHeartbeats 2000000 in
theorem radd_good (v u : Value) (bs cs : Nat → Nat) (hbs : ∀ j, bs j < 256) (hcs : ∀ j, cs j < 256) (w : World) (hv : BytesIn w v 32 bs) (hu : BytesIn w u 32 cs) :
    Calls Try.prog 12 #[v, u] w fun e w' => ∃ s, e = .returned (.tuple #[s, .int .i64 0]) ∧ BytesIn w' s 32 (byt ((ofB bs 32 % pF + ofB cs 32 % pF) % pF)) ∧ Below w.heap.size w w' := by
  have c1 := rfrom v bs hbs w hv
  have c2 := fun W (h : Below w.heap.size w W) => rfrom u cs hcs W (hu.still h)
  have c3 := fun W => rplus_any (fromL bs) (fromL cs) (fun j hj => by have := fromL_dig bs hbs j; omega) (fun j hj => by have := fromL_dig cs hcs j; omega) W
  have hd := (carry_dig (fun j => fromL bs j + fromL cs j) 131072 (by decide) (fun j hj => by have := fromL_dig bs hbs j; have := fromL_dig cs hcs j; show -131072 ≤ fromL bs j + fromL cs j ∧ fromL bs j + fromL cs j ≤ 131072; omega)).mono (S := 9007199254740992) (by decide)
  have c4 := fun W => rbytes _ hd (ofB bs 32 % pF + ofB cs 32 % pF) (plus_mod bs cs) W
  obtain ⟨xv, kv, rfl, -⟩ := hv.src
  obtain ⟨xu, ku, rfl, -⟩ := hu.src
  have cl := length_any xv xu 32 32 kv ku w
  rw [show decide (32 = 32 ∧ 32 = 32) = true from rfl] at cl
  obtain ⟨A, hA⟩ : ∃ A, A = refV (fromL bs) := ⟨_, rfl⟩
  obtain ⟨B, hB⟩ : ∃ B, B = refV (fromL cs) := ⟨_, rfl⟩
  obtain ⟨C, hC⟩ : ∃ C, C = refV (carryL (fun j => fromL bs j + fromL cs j)) := ⟨_, rfl⟩
  obtain ⟨R, hR⟩ : ∃ R, R = (ofB bs 32 % pF + ofB cs 32 % pF) % pF := ⟨_, rfl⟩
  rw [← hA] at c1 c3
  rw [← hB] at c2 c3
  rw [← hC] at c3 c4
  rw [← hR] at c4 ⊢
  clear hA hB hC hR hv hu hd
  go_enter Try.func12, Try.ntmps12
  go_wp2_with (first
    | (go_at_call 45; refine cl.mono ?_; clear cl; rintro e wl ⟨rfl, hw⟩; subst hw)
    | (go_at_call 32; refine c1.mono ?_; clear c1; rintro e w1 ⟨rfl, hb1⟩)
    | (go_at_call 32; refine (c2 _ hb1).mono ?_; clear c2; rintro e w2 ⟨rfl, hb2⟩)
    | (go_at_call 36; refine (c3 _).mono ?_; clear c3; rintro e w3 ⟨rfl, hb3⟩)
    | (go_at_call 43; refine (c4 _).mono ?_; clear c4; rintro e w4 ⟨vv, rfl, own, hb4⟩))
  go_ret2
  have hbw2 := hb1.trans (hb2.mono hb1.size)
  have hbw3 := hbw2.trans (hb3.mono hbw2.size)
  exact ⟨_, rfl, BytesIn.of_own own, hbw3.trans (hb4.mono hbw3.size)⟩
theorem radd_bad (x y : Option Addr) (n m c d : Nat) (w : World) (hbad : ¬(n = 32 ∧ m = 32)) :
    Calls Try.prog 12 #[.slice x n c, .slice y m d] w fun e w' => e = .returned (.tuple #[.slice none 0 0, .int .i64 1]) ∧ w' = w := by
  have cl := length_any x y n m c d w
  rw [decide_eq_false hbad] at cl
  clear hbad
  go_enter Try.func12, Try.ntmps12
  go_wp2_with (first
    | (go_at_call 45; refine cl.mono ?_; clear cl; rintro e wl ⟨rfl, hw⟩; subst hw))
  go_ret2
  exact ⟨rfl, rfl⟩
set_option maxRecDepth 20000 in
set_option maxHeartbeats 2000000 in
theorem rsub_good (v u : Value) (bs cs : Nat → Nat) (hbs : ∀ j, bs j < 256) (hcs : ∀ j, cs j < 256) (w : World) (hv : BytesIn w v 32 bs) (hu : BytesIn w u 32 cs) :
    Calls Try.prog 14 #[v, u] w fun e w' => ∃ s, e = .returned (.tuple #[s, .int .i64 0]) ∧ BytesIn w' s 32 (byt ((ofB bs 32 % pF + pF - ofB cs 32 % pF) % pF)) ∧ Below w.heap.size w w' := by
  have c1 := rfrom v bs hbs w hv
  have c2 := fun W (h : Below w.heap.size w W) => rfrom u cs hcs W (hu.still h)
  have c3 := fun W => rminus_any (fromL bs) (fromL cs) (fun j hj => by have := fromL_dig bs hbs j; omega) (fun j hj => by have := fromL_dig cs hcs j; omega) W
  have hd := (carry_dig (fun j => fromL bs j - fromL cs j) 131072 (by decide) (fun j hj => by have := fromL_dig bs hbs j; have := fromL_dig cs hcs j; show -131072 ≤ fromL bs j - fromL cs j ∧ fromL bs j - fromL cs j ≤ 131072; omega)).mono (S := 9007199254740992) (by decide)
  have c4 := fun W => rbytes _ hd (ofB bs 32 % pF + pF - ofB cs 32 % pF) (minus_mod bs cs) W
  obtain ⟨xv, kv, rfl, -⟩ := hv.src
  obtain ⟨xu, ku, rfl, -⟩ := hu.src
  have cl := length_any xv xu 32 32 kv ku w
  rw [show decide (32 = 32 ∧ 32 = 32) = true from rfl] at cl
  obtain ⟨A, hA⟩ : ∃ A, A = refV (fromL bs) := ⟨_, rfl⟩
  obtain ⟨B, hB⟩ : ∃ B, B = refV (fromL cs) := ⟨_, rfl⟩
  obtain ⟨C, hC⟩ : ∃ C, C = refV (carryL (fun j => fromL bs j - fromL cs j)) := ⟨_, rfl⟩
  obtain ⟨R, hR⟩ : ∃ R, R = (ofB bs 32 % pF + pF - ofB cs 32 % pF) % pF := ⟨_, rfl⟩
  rw [← hA] at c1 c3
  rw [← hB] at c2 c3
  rw [← hC] at c3 c4
  rw [← hR] at c4 ⊢
  clear hA hB hC hR hv hu hd
  go_enter Try.func14, Try.ntmps14
  go_wp2_with (first
    | (go_at_call 45; refine cl.mono ?_; clear cl; rintro e wl ⟨rfl, hw⟩; subst hw)
    | (go_at_call 32; refine c1.mono ?_; clear c1; rintro e w1 ⟨rfl, hb1⟩)
    | (go_at_call 32; refine (c2 _ hb1).mono ?_; clear c2; rintro e w2 ⟨rfl, hb2⟩)
    | (go_at_call 38; refine (c3 _).mono ?_; clear c3; rintro e w3 ⟨rfl, hb3⟩)
    | (go_at_call 43; refine (c4 _).mono ?_; clear c4; rintro e w4 ⟨vv, rfl, own, hb4⟩))
  go_ret2
  have hbw2 := hb1.trans (hb2.mono hb1.size)
  have hbw3 := hbw2.trans (hb3.mono hbw2.size)
  exact ⟨_, rfl, BytesIn.of_own own, hbw3.trans (hb4.mono hbw3.size)⟩
theorem rsub_bad (x y : Option Addr) (n m c d : Nat) (w : World) (hbad : ¬(n = 32 ∧ m = 32)) :
    Calls Try.prog 14 #[.slice x n c, .slice y m d] w fun e w' => e = .returned (.tuple #[.slice none 0 0, .int .i64 1]) ∧ w' = w := by
  have cl := length_any x y n m c d w
  rw [decide_eq_false hbad] at cl
  clear hbad
  go_enter Try.func14, Try.ntmps14
  go_wp2_with (first
    | (go_at_call 45; refine cl.mono ?_; clear cl; rintro e wl ⟨rfl, hw⟩; subst hw))
  go_ret2
  exact ⟨rfl, rfl⟩
set_option maxRecDepth 20000 in
set_option maxHeartbeats 2000000 in
theorem rmul_good (v u : Value) (bs cs : Nat → Nat) (hbs : ∀ j, bs j < 256) (hcs : ∀ j, cs j < 256) (w : World) (hv : BytesIn w v 32 bs) (hu : BytesIn w u 32 cs) :
    Calls Try.prog 21 #[v, u] w fun e w' => ∃ s, e = .returned (.tuple #[s, .int .i64 0]) ∧ BytesIn w' s 32 (byt ((ofB bs 32 % pF * (ofB cs 32 % pF)) % pF)) ∧ Below w.heap.size w w' := by
  have c1 := rfrom v bs hbs w hv
  have c2 := fun W (h : Below w.heap.size w W) => rfrom u cs hcs W (hu.still h)
  have c3 := fun W => rtimes_any (fromL bs) (fromL cs) (fun j hj => by have := fromL_dig bs hbs j; omega) (fun j hj => by have := fromL_dig cs hcs j; omega) W
  have hbd := tP_bd (fromL bs) (fromL cs) (fun j hj => by have := fromL_dig bs hbs j; omega) (fun j hj => by have := fromL_dig cs hcs j; omega) 15 16 (by decide) (Nat.le_refl _)
  have hF : ∀ j, j < 16 → -171523813933056 ≤ foldT (tP (fromL bs) (fromL cs) 15 16) 16 j ∧ foldT (tP (fromL bs) (fromL cs) 15 16) 16 j ≤ 171523813933056 := fun j hj => by
    have h1 := hbd j
    have h2 := hbd (j + 16)
    unfold foldT
    rw [if_pos hj]
    split <;> omega
  have hd := (carry_fine _ ((carry_dig _ 171523813933056 (by decide) hF).mono (by decide))).1.mono (S := 9007199254740992) (by decide)
  have c4 := fun W => rbytes _ hd (ofB bs 32 % pF * (ofB cs 32 % pF)) (times_mod bs cs) W
  obtain ⟨xv, kv, rfl, -⟩ := hv.src
  obtain ⟨xu, ku, rfl, -⟩ := hu.src
  have cl := length_any xv xu 32 32 kv ku w
  rw [show decide (32 = 32 ∧ 32 = 32) = true from rfl] at cl
  obtain ⟨A, hA⟩ : ∃ A, A = refV (fromL bs) := ⟨_, rfl⟩
  obtain ⟨B, hB⟩ : ∃ B, B = refV (fromL cs) := ⟨_, rfl⟩
  obtain ⟨C, hC⟩ : ∃ C, C = refV (carryL (carryL (foldT (tP (fromL bs) (fromL cs) 15 16) 16))) := ⟨_, rfl⟩
  obtain ⟨R, hR⟩ : ∃ R, R = (ofB bs 32 % pF * (ofB cs 32 % pF)) % pF := ⟨_, rfl⟩
  rw [← hA] at c1 c3
  rw [← hB] at c2 c3
  rw [← hC] at c3 c4
  rw [← hR] at c4 ⊢
  clear hA hB hC hR hv hu hd
  go_enter Try.func21, Try.ntmps21
  go_wp2_with (first
    | (go_at_call 45; refine cl.mono ?_; clear cl; rintro e wl ⟨rfl, hw⟩; subst hw)
    | (go_at_call 32; refine c1.mono ?_; clear c1; rintro e w1 ⟨rfl, hb1⟩)
    | (go_at_call 32; refine (c2 _ hb1).mono ?_; clear c2; rintro e w2 ⟨rfl, hb2⟩)
    | (go_at_call 40; refine (c3 _).mono ?_; clear c3; rintro e w3 ⟨rfl, hb3⟩)
    | (go_at_call 43; refine (c4 _).mono ?_; clear c4; rintro e w4 ⟨vv, rfl, own, hb4⟩))
  go_ret2
  have hbw2 := hb1.trans (hb2.mono hb1.size)
  have hbw3 := hbw2.trans (hb3.mono hbw2.size)
  exact ⟨_, rfl, BytesIn.of_own own, hbw3.trans (hb4.mono hbw3.size)⟩
theorem rmul_bad (x y : Option Addr) (n m c d : Nat) (w : World) (hbad : ¬(n = 32 ∧ m = 32)) :
    Calls Try.prog 21 #[.slice x n c, .slice y m d] w fun e w' => e = .returned (.tuple #[.slice none 0 0, .int .i64 1]) ∧ w' = w := by
  have cl := length_any x y n m c d w
  rw [decide_eq_false hbad] at cl
  clear hbad
  go_enter Try.func21, Try.ntmps21
  go_wp2_with (first
    | (go_at_call 45; refine cl.mono ?_; clear cl; rintro e wl ⟨rfl, hw⟩; subst hw))
  go_ret2
  exact ⟨rfl, rfl⟩
set_option maxRecDepth 20000 in
set_option maxHeartbeats 2000000 in
theorem rcanon_good (v : Value) (bs : Nat → Nat) (hbs : ∀ j, bs j < 256) (w : World) (hv : BytesIn w v 32 bs) :
    Calls Try.prog 16 #[v] w fun e w' => ∃ s, e = .returned (.tuple #[s, .int .i64 0]) ∧ BytesIn w' s 32 (byt (ofB bs 32 % pF)) ∧ Below w.heap.size w w' := by
  have c1 := rfrom v bs hbs w hv
  have c4 := fun W => rbytes (fromL bs) ((from_dig bs hbs).mono (by decide)) (ofB bs 32) (by rw [valR_from, nat_mod]) W
  obtain ⟨xv, kv, rfl, -⟩ := hv.src
  obtain ⟨A, hA⟩ : ∃ A, A = refV (fromL bs) := ⟨_, rfl⟩
  obtain ⟨R, hR⟩ : ∃ R, R = ofB bs 32 % pF := ⟨_, rfl⟩
  rw [← hA] at c1 c4
  rw [← hR] at c4 ⊢
  clear hA hR hv
  go_enter Try.func16, Try.ntmps16
  go_wp2_with (first
    | (go_at_call 32; refine c1.mono ?_; clear c1; rintro e w1 ⟨rfl, hb1⟩)
    | (go_at_call 43; refine (c4 _).mono ?_; clear c4; rintro e w4 ⟨vv, rfl, own, hb4⟩))
  go_ret2
  exact ⟨_, rfl, BytesIn.of_own own, hb1.trans (hb4.mono hb1.size)⟩
theorem rcanon_bad (x : Option Addr) (n c : Nat) (w : World) (hbad : ¬n = 32) :
    Calls Try.prog 16 #[.slice x n c] w fun e w' => e = .returned (.tuple #[.slice none 0 0, .int .i64 1]) ∧ w' = w := by
  have h' : ¬(n : Int) = 32 := by omega
  go_enter Try.func16, Try.ntmps16
  go_wp2
  go_ret2
  exact ⟨rfl, rfl⟩
end Go.Proofs.Ytinigkpidhbgcaa
