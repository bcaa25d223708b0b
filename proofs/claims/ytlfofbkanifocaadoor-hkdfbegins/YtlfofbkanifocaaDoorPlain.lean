/- Plain laws: the state behind bytes does not ask in which pieces they came; the sum is that of the blocks of the text and its padding; words byte by byte. -/
import Derived.Test.YtlfofbkanifocaaDoorTop
import Derived.Test.YtlfofbkanifocaaDoorApp
namespace Go.Proofs.YtlfofbkanifocaaDoor
open Go.RowKit
theorem fill_congr {m sz : Nat} {bs cs : Nat → Nat} : ∀ i, (∀ j, j < i → bs j = cs j) → fill m sz bs i = fill m sz cs i
  | 0, _ => rfl
  | i + 1, h => by unfold fill; rw [fill_congr i (fun j hj => h j (by omega)), h i (by omega)]
theorem sch_congr {r : Ru} {X Y : Nat → Nat} (h : ∀ j, j < 16 → X j = Y j) : ∀ k j, j < 16 + k → sch r X k j = sch r Y k j
  | 0, j, hj => h j (by omega)
  | k + 1, j, hj => by
    unfold sch upd
    have e : nextW r (sch r X k) k = nextW r (sch r Y k) k := by
      unfold nextW
      rw [sch_congr h k (k + 14) (by omega), sch_congr h k (k + 9) (by omega), sch_congr h k (k + 1) (by omega), sch_congr h k k (by omega)]
    rw [e]
    by_cases e2 : j = k + 16
    · rw [if_pos e2, if_pos e2]
    · rw [if_neg e2, if_neg e2]; exact sch_congr h k j (by omega)
theorem roundsS_congr {r : Ru} {K L X Y : Nat → Nat} {s : St} : ∀ n, (∀ j, j < n → X j = Y j) → (∀ j, j < n → K j = L j) → roundsS r K X s n = roundsS r L Y s n
  | 0, _, _ => rfl
  | n + 1, h, g => by unfold roundsS; rw [roundsS_congr n (fun j hj => h j (by omega)) (fun j hj => g j (by omega)), h n (by omega), g n (by omega)]
theorem blockS_congr {r : Ru} {K : Nat → Nat} {bs cs : Nat → Nat} {s : St} (h : ∀ j, j < 2 * r.m → bs j = cs j) : blockS r K bs s = blockS r K cs s := by
  unfold blockS; rw [fill_congr _ h]
theorem loopS_congr {r : Ru} {K : Nat → Nat} {s : St} {bs cs : Nat → Nat} : ∀ i, (∀ j, j < i * (2 * r.m) → bs j = cs j) → loopS r K s bs i = loopS r K s cs i
  | 0, _ => rfl
  | i + 1, h => by
    unfold loopS
    have hs : (i + 1) * (2 * r.m) = i * (2 * r.m) + 2 * r.m := Nat.succ_mul i (2 * r.m)
    rw [loopS_congr i (fun j hj => h j (by omega))]
    exact blockS_congr fun j hj => h _ (by omega)
theorem loopS_add {r : Ru} {K : Nat → Nat} {s : St} {bs : Nat → Nat} (i : Nat) : ∀ k, loopS r K s bs (i + k) = loopS r K (loopS r K s bs i) (fun j => bs (i * (2 * r.m) + j)) k
  | 0 => rfl
  | k + 1 => by
    show blockS r K (fun j => bs ((i + k) * (2 * r.m) + j)) (loopS r K s bs (i + k)) = blockS r K (fun j => bs (i * (2 * r.m) + (k * (2 * r.m) + j))) _
    rw [loopS_add i k]
    exact blockS_congr fun j _ => by rw [Nat.add_mul, Nat.add_assoc]
theorem divmod {x a b t : Nat} (h : x = a * b + t) (ht : t < b) : x / b = a ∧ x % b = t := by
  subst h
  have hb : 0 < b := by omega
  exact ⟨by rw [Nat.add_comm, Nat.add_mul_div_right _ _ hb, Nat.div_eq_of_lt ht, Nat.zero_add], by rw [Nat.add_comm, Nat.add_mul_mod_self_right, Nat.mod_eq_of_lt ht]⟩
/-- A state and held bytes are those behind n bytes. -/
structure Holds (r : Ru) (K : Nat → Nat) (s0 : St) (n : Nat) (bs : Nat → Nat) (s : St) (R : Nat → Nat) : Prop where
  st : s = loopS r K s0 bs (n / (2 * r.m))
  rest : ∀ j, j < n % (2 * r.m) → R j = bs (n / (2 * r.m) * (2 * r.m) + j)
theorem Holds.none (r : Ru) (K : Nat → Nat) (s0 : St) (bs R : Nat → Nat) : Holds r K s0 0 bs s0 R := ⟨by rw [Nat.zero_div]; rfl, fun j h => by rw [Nat.zero_mod] at h; omega⟩
theorem Holds.congr {r : Ru} {K : Nat → Nat} {s0 : St} {n : Nat} {bs cs : Nat → Nat} {s : St} {R : Nat → Nat} (h : Holds r K s0 n bs s R) (e : ∀ j, j < n → bs j = cs j) : Holds r K s0 n cs s R := by
  have h1 := Nat.div_add_mod n (2 * r.m)
  rw [Nat.mul_comm] at h1
  exact ⟨h.st.trans (loopS_congr _ fun j hj => e j (by omega)), fun j hj => (h.rest j hj).trans (e _ (by omega))⟩
theorem Holds.write {r : Ru} {K : Nat → Nat} {s0 : St} {n : Nat} {bs : Nat → Nat} {s : St} {R : Nat → Nat} (hm : 0 < r.m) (h : Holds r K s0 n bs s R) (m : Nat) (b2 : Nat → Nat) :
    Holds r K s0 (n + m) (cat n bs b2) (writeE r K s R n m b2).1 (writeE r K s R n m b2).2 := by
  obtain ⟨hst, hrest⟩ := h
  obtain ⟨B, hB⟩ : ∃ B, B = 2 * r.m := ⟨_, rfl⟩
  have hB0 : 0 < B := by omega
  have hn := Nat.div_add_mod n B
  have ht := Nat.mod_lt n hB0
  rw [← hB] at hst hrest
  obtain ⟨a, ha⟩ : ∃ a, a = n / B := ⟨_, rfl⟩
  obtain ⟨t, htt⟩ : ∃ t, t = n % B := ⟨_, rfl⟩
  rw [← ha] at hst hrest hn
  rw [← htt] at hrest hn ht
  rw [Nat.mul_comm] at hn
  have hpre : loopS r K s0 (cat n bs b2) a = s := by
    rw [hst]
    refine loopS_congr _ fun j hj => ?_
    rw [← hB] at hj
    show (if j < n then bs j else _) = _
    rw [if_pos (by omega)]
  -- what tailE makes, where a whole block's end is reached at place p (a multiple of B) of all bytes
  have tail : ∀ (p c m' : Nat) (s' : St) (R' : Nat → Nat) (b' : Nat → Nat), p = c * B → s' = loopS r K s0 (cat n bs b2) c → (∀ j, cat n bs b2 (p + j) = b' j) → p + m' = n + m →
      Holds r K s0 (n + m) (cat n bs b2) (tailE r K s' R' m' b').1 (tailE r K s' R' m' b').2 := by
    intro p c m' s' R' b' hp hs' hb' hpm
    have hm' := Nat.div_add_mod m' B
    have hu := Nat.mod_lt m' hB0
    rw [Nat.mul_comm] at hm'
    obtain ⟨e1, e2⟩ := divmod (x := n + m) (a := c + m' / B) (b := B) (t := m' % B) (by rw [Nat.add_mul]; omega) hu
    refine ⟨?_, ?_⟩
    · rw [← hB, e1, loopS_add, ← hB, ← hp, ← hs']
      show loopS r K s' b' (m' / (2 * r.m)) = _
      rw [← hB]
      exact loopS_congr _ fun j _ => (hb' j).symm
    · intro j hj
      rw [← hB, e2] at hj
      rw [← hB, e1]
      show over R' 0 (m' % (2 * r.m)) (fun j => b' (m' / (2 * r.m) * (2 * r.m) + j)) j = _
      rw [← hB]
      unfold over
      rw [if_pos ⟨Nat.zero_le _, by omega⟩, Nat.sub_zero]
      show b' (m' / B * B + j) = _
      rw [← hb', Nat.add_mul, hp, Nat.add_assoc]
  unfold writeE
  rw [← hB, ← htt]
  by_cases h0 : t = 0
  · rw [if_pos h0]
    refine tail n a m s R b2 (by omega) hpre.symm (fun j => ?_) rfl
    unfold cat
    rw [if_neg (by omega), show n + j - n = j by omega]
  · rw [if_neg h0]
    by_cases h1 : t + m < B
    · rw [if_pos h1]
      obtain ⟨e1, e2⟩ := divmod (x := n + m) (a := a) (b := B) (t := t + m) (by omega) h1
      refine ⟨?_, ?_⟩
      · rw [← hB, e1]; exact hpre.symm
      · intro j hj
        rw [← hB, e2] at hj
        rw [← hB, e1]
        show over R t m b2 j = _
        unfold over cat
        by_cases h2 : j < t
        · rw [if_neg (by omega), if_pos (by omega)]; exact hrest j h2
        · rw [if_pos (by omega), if_neg (by omega)]; congr 1; omega
    · rw [if_neg h1]
      refine tail (n + (B - t)) (a + 1) (m - (B - t)) _ _ _ (by rw [Nat.succ_mul]; omega) ?_ (fun j => ?_) (by omega)
      · show _ = blockS r K (fun j => cat n bs b2 (a * (2 * r.m) + j)) (loopS r K s0 (cat n bs b2) a)
        rw [hpre]
        refine blockS_congr fun j hj => ?_
        rw [← hB] at hj ⊢
        unfold over cat
        by_cases h2 : j < t
        · rw [if_neg (by omega), if_pos (by omega)]; exact hrest j h2
        · rw [if_pos (by omega), if_neg (by omega)]; congr 1; omega
      · unfold cat
        rw [if_neg (by omega)]; congr 1; omega
/-- The state behind all blocks of a text and its padding. -/
def specS (r : Ru) (K q : Nat → Nat) (n : Nat) (bs : Nat → Nat) : St := loopS r K (firstS r q) (cat n bs (padF r n)) ((n + padN r n) / (2 * r.m))
theorem Holds.end {r : Ru} {K q : Nat → Nat} {n : Nat} {bs : Nat → Nat} {s : St} {R : Nat → Nat} (hm : 0 < r.m) (h : Holds r K (firstS r q) n bs s R) : endS r K s R n = specS r K q n bs := (h.write hm (padN r n) (padF r n)).st
theorem hashS_spec {r : Ru} (K q : Nat → Nat) (n : Nat) (bs : Nat → Nat) (hm : 0 < r.m) : hashS r K q n bs = specS r K q n bs := by
  have h := (Holds.none r K (firstS r q) bs (fun _ => 0)).write hm n bs
  rw [Nat.zero_add] at h
  exact Holds.end hm (h.congr fun j _ => by unfold cat; rw [if_neg (by omega), Nat.sub_zero])
theorem specS_congr {r : Ru} {K q : Nat → Nat} {n : Nat} {bs cs : Nat → Nat} (h : ∀ j, j < n → bs j = cs j) : specS r K q n bs = specS r K q n cs :=
  loopS_congr _ fun j _ => by
    unfold cat
    by_cases e : j < n
    · rw [if_pos e, if_pos e]; exact h j e
    · rw [if_neg e, if_neg e]
/-- A word, byte by byte, as the program makes it. -/
def wordM (m : Nat) (bs : Nat → Nat) (o : Nat) : Nat → Nat
  | 0 => 0
  | k + 1 => (wordM m bs o k * 256 % 2 ^ m) ||| bs (o + k)
theorem fill_word (m sz : Nat) (hs : 0 < sz) (bs : Nat → Nat) : ∀ n i, (n ≤ sz * i → fill m sz bs n i = 0) ∧ (∀ k, k ≤ sz → n = sz * i + k → fill m sz bs n i = wordM m bs (sz * i) k) ∧ (sz * (i + 1) ≤ n → fill m sz bs n i = wordM m bs (sz * i) sz)
  | 0, i => ⟨fun _ => rfl, fun k hk e => by
      have : k = 0 := by omega
      subst this; rfl, fun h => by rw [Nat.mul_succ] at h; omega⟩
  | n + 1, i => by
    obtain ⟨h1, h2, h3⟩ := fill_word m sz hs bs n i
    have hne : ∀ a t, n = a * sz + t → t < sz → fill m sz bs (n + 1) i = if i = a then (fill m sz bs n i * 256 % 2 ^ m) ||| bs n else fill m sz bs n i := fun a t e ht => by
      obtain ⟨d1, _⟩ := divmod e ht
      show upd (fill m sz bs n) (n / sz) _ i = _
      unfold upd
      rw [d1]
      by_cases e2 : i = a
      · rw [if_pos e2, if_pos e2, e2]
      · rw [if_neg e2, if_neg e2]
    have hdm := Nat.div_add_mod n sz
    have hml := Nat.mod_lt n hs
    rw [Nat.mul_comm] at hdm
    have hn := hne (n / sz) (n % sz) hdm.symm hml
    have key : ∀ k, k ≤ sz → n + 1 = sz * i + k → fill m sz bs (n + 1) i = wordM m bs (sz * i) k := fun k hk e => by
      match k, hk, e with
      | 0, _, e =>
        have hi : i ≠ n / sz := fun hi => by
          rw [← hi, Nat.mul_comm] at hdm
          omega
        rw [hn, if_neg hi]
        exact h1 (by omega)
      | k + 1, hk, e =>
        have e' : n = i * sz + k := by rw [Nat.mul_comm i sz]; omega
        rw [hne i k e' (by omega), if_pos rfl, h2 k (by omega) (by omega)]
        show _ = (wordM m bs (sz * i) k * 256 % 2 ^ m) ||| bs (sz * i + k)
        rw [show n = sz * i + k by omega]
    refine ⟨fun h => ?_, key, fun h => ?_⟩
    · have hi : i ≠ n / sz := fun hi => by
        rw [← hi, Nat.mul_comm] at hdm
        omega
      rw [hn, if_neg hi]
      exact h1 (by omega)
    · rw [Nat.mul_succ] at h
      by_cases e : n + 1 = sz * i + sz
      · exact key sz (Nat.le_refl _) e
      · have hi : i ≠ n / sz := fun hi => by
          rw [← hi, Nat.mul_comm] at hdm
          omega
        rw [hn, if_neg hi]
        exact h3 (by rw [Nat.mul_succ]; omega)
theorem wordM64 (bs : Nat → Nat) (o : Nat) : ∀ k, wordM 64 bs o k = wordR bs o k
  | 0 => rfl
  | k + 1 => by unfold wordM wordR; rw [wordM64 bs o k]
theorem or_small {x b m : Nat} (hx : x < 2 ^ m) (hb : b < 256) (hm : m + 8 ≤ 32) : (x * 256 % 2 ^ 32 ||| b) = (x * 256 % 2 ^ 64 ||| b) ∧ (x * 256 % 2 ^ 32 ||| b) < 2 ^ (m + 8) := by
  have h1 : x * 256 < 2 ^ (m + 8) := by rw [Nat.pow_add]; exact Nat.mul_lt_mul_of_pos_right hx (by decide)
  have h2 : 2 ^ (m + 8) ≤ 2 ^ 32 := Nat.pow_le_pow_right (by decide) hm
  have e1 : x * 256 % 2 ^ 32 = x * 256 := Nat.mod_eq_of_lt (by omega)
  have h3 : (2 : Nat) ^ 32 ≤ 2 ^ 64 := by decide
  have e2 : x * 256 % 2 ^ 64 = x * 256 := Nat.mod_eq_of_lt (by omega)
  refine ⟨by rw [e1, e2], ?_⟩
  rw [e1]
  exact Nat.or_lt_two_pow h1 (Nat.lt_of_lt_of_le hb (by rw [Nat.pow_add]; exact Nat.le_mul_of_pos_left _ (Nat.two_pow_pos m)))
theorem wordM32 (bs : Nat → Nat) (hb : ∀ j, bs j < 256) (o : Nat) : wordM 32 bs o 4 = wordR bs o 4 := by
  have h0 : wordM 32 bs o 0 = wordR bs o 0 := rfl
  have l0 : wordM 32 bs o 0 < 2 ^ 0 := Nat.zero_lt_one
  obtain ⟨e1, l1⟩ := or_small l0 (hb (o + 0)) (by decide)
  obtain ⟨e2, l2⟩ := or_small (x := wordM 32 bs o 1) l1 (hb (o + 1)) (by decide)
  obtain ⟨e3, l3⟩ := or_small (x := wordM 32 bs o 2) l2 (hb (o + 2)) (by decide)
  obtain ⟨e4, l4⟩ := or_small (x := wordM 32 bs o 3) l3 (hb (o + 3)) (by decide)
  have w1 : wordM 32 bs o 1 = wordR bs o 1 := e1
  have w2 : wordM 32 bs o 2 = wordR bs o 2 := e2.trans (by rw [w1]; rfl)
  have w3 : wordM 32 bs o 3 = wordR bs o 3 := e3.trans (by rw [w2]; rfl)
  exact e4.trans (by rw [w3]; rfl)
theorem blockR32_eq (K : Nat → Nat) (bs : Nat → Nat) (_hb : ∀ j, bs j < 256) (s : St) : addS rn s (roundsS rn K (sch rn (fun i => wordR bs (4 * i) 4) (64 - 16)) s 64) = blockS rn K bs s := by
  have e : roundsS rn K (sch rn (fun i => wordR bs (4 * i) 4) (64 - 16)) s 64 = roundsS rn K (sch rn (fill 32 4 bs 64) (64 - 16)) s 64 :=
    roundsS_congr _ (fun j hj => sch_congr (fun i hi => by
      rw [((fill_word 32 4 (by decide) bs 64 i).2.2 (by omega))]
      exact (wordM32 bs _hb _).symm) _ j (by omega)) fun _ _ => rfl
  rw [e]
  rfl
theorem blockR64_eq (K : Nat → Nat) (bs : Nat → Nat) (_hb : ∀ j, bs j < 256) (s : St) : addS rw6 s (roundsS rw6 K (sch rw6 (fun i => wordR bs (8 * i) 8) (80 - 16)) s 80) = blockS rw6 K bs s := by
  have e : roundsS rw6 K (sch rw6 (fun i => wordR bs (8 * i) 8) (80 - 16)) s 80 = roundsS rw6 K (sch rw6 (fill 64 8 bs 128) (80 - 16)) s 80 :=
    roundsS_congr _ (fun j hj => sch_congr (fun i hi => by
      rw [((fill_word 64 8 (by decide) bs 128 i).2.2 (by omega))]
      exact (wordM64 bs _ 8).symm) _ j (by omega)) fun _ _ => rfl
  rw [e]
  rfl
end Go.Proofs.YtlfofbkanifocaaDoor
