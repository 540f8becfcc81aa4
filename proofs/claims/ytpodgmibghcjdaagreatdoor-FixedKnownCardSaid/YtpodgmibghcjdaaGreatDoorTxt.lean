/-
  What is printed is read as itself: texts alone.
-/
import Derived.Test.YtpodgmibghcjdaaGreatDoorRead
import Derived.Test.YtpodgmibghcjdaaGreatDoorRefP
namespace Go.Proofs.YtpodgmibghcjdaaGreatDoor
open Go Go.RowKit

theorem idx_dig (l r : List UInt8) (h : l.all isDig = true) : Lib.indexByte (l ++ 46 :: r) 46 = l.length := by
  induction l with
  | nil => simp [Lib.indexByte]
  | cons c t ih =>
    simp only [List.all_cons, Bool.and_eq_true] at h
    have hc : (c == 46) = false := by
      rcases hb : (c == 46) with _ | _
      · rfl
      · have : c = 46 := by simpa using hb
        rw [this] at h
        exact absurd h.1 (by decide)
    have := ih h.2
    simp only [List.cons_append, Lib.indexByte, hc, this]
    rw [if_neg (by simp)]
    rw [if_neg (by simp <;> omega)]
    simp

theorem idx_none (l : List UInt8) (h : l.all isDig = true) : Lib.indexByte l 46 = -1 := by
  induction l with
  | nil => simp [Lib.indexByte]
  | cons c t ih =>
    simp only [List.all_cons, Bool.and_eq_true] at h
    have hc : (c == 46) = false := by
      rcases hb : (c == 46) with _ | _
      · rfl
      · have : c = 46 := by simpa using hb
        rw [this] at h
        exact absurd h.1 (by decide)
    simp [Lib.indexByte, hc, ih h.2]

theorem cut_point (X Y : List UInt8) (h : X.all isDig = true) : Lib.cut (X ++ 46 :: Y) [46] = (X, Y, true) := by
  unfold Lib.cut
  rw [Lib.index_one, idx_dig X Y h, if_pos (by omega)]
  have e : ((X.length : Nat) : Int).toNat = X.length := by omega
  rw [e]
  simp

theorem cut_whole (X : List UInt8) (h : X.all isDig = true) : Lib.cut X [46] = (X, [], false) := by
  unfold Lib.cut
  rw [Lib.index_one, idx_none X h, if_neg (by omega)]

theorem numF_cons (a : Nat) (c : UInt8) (r : List UInt8) : numF a (c :: r) = numF (a * 10 + (c.toNat - 48)) r := by kernel_rfl
theorem numF_nil (a : Nat) : numF a [] = a := rfl

theorem numF_append (l r : List UInt8) : ∀ a, numF a (l ++ r) = numF (numF a l) r := by
  induction l with
  | nil => intro a; rfl
  | cons c t ih => intro a; rw [List.cons_append, numF_cons, numF_cons]; exact ih _

theorem digit_is (k : Nat) (h : k < 10) : isDig (UInt8.ofNat (48 + k)) = true ∧ (UInt8.ofNat (48 + k)).toNat - 48 = k := by
  have : ∀ k : Fin 10, isDig (UInt8.ofNat (48 + k.val)) = true ∧ (UInt8.ofNat (48 + k.val)).toNat - 48 = k.val := by decide
  exact this ⟨k, h⟩

theorem dec_facts (u : Nat) : (Lib.decDigits u).all isDig = true ∧ numL (Lib.decDigits u) = u ∧ Lib.decDigits u ≠ [] := by
  induction u using Nat.strongRecOn with
  | ind u ih =>
    rw [dec_step]
    obtain ⟨hd, hv⟩ := digit_is (u % 10) (by omega)
    by_cases h : u < 10
    · rw [if_pos h]
      refine ⟨by simpa using hd, ?_, by simp⟩
      rw [numL, List.nil_append, numF_cons, numF_nil, hv]
      omega
    · rw [if_neg h]
      obtain ⟨i1, i2, i3⟩ := ih (u / 10) (by omega)
      refine ⟨by rw [List.all_append, i1]; simpa using hd, ?_, by simp⟩
      unfold numL at i2 ⊢
      rw [numF_append, i2]
      rw [numF_cons, numF_nil, hv]
      omega

theorem numF_zeros (t : Nat) : ∀ a, numF a (List.replicate t 48) = a * 10 ^ t := by
  induction t with
  | zero => intro a; rw [List.replicate_zero, numF_nil, Nat.pow_zero, Nat.mul_one]
  | succ t ih =>
    intro a
    rw [List.replicate_succ, numF_cons, ih, Nat.pow_succ, show (48 : UInt8).toNat - 48 = 0 by decide]
    simp [Nat.mul_assoc, Nat.mul_comm 10]

theorem frac_facts : ∀ (k p : Nat), p < 65536 → p % 2 ^ (16 - k) = 0 → k ≤ 16 → (fracF k p).all isDig = true ∧ (fracF k p).length ≤ k ∧
    ∀ a t m, k ≤ t → t ≤ m → numF a ((fracF k p ++ List.replicate m 48).take t) = a * 10 ^ t + p * 10 ^ t / 65536 := by
  intro k
  induction k with
  | zero =>
    intro p hp hm _
    have : p = 0 := by simp at hm; omega
    subst this
    refine ⟨rfl, Nat.le_refl _, ?_⟩
    intro a t m _ hm
    rw [fracF, List.nil_append, List.take_replicate, Nat.min_eq_left hm, numF_zeros]
    simp
  | succ j ih =>
    intro p hp hm hk
    by_cases h0 : p = 0
    · subst h0
      rw [fracF_zero]
      refine ⟨rfl, Nat.zero_le _, ?_⟩
      intro a t m _ hm
      rw [List.nil_append, List.take_replicate, Nat.min_eq_left hm, numF_zeros]
      simp
    · have hm' : p * 10 % 65536 % 2 ^ (16 - j) = 0 := by
        have e : 2 ^ (16 - j) = 2 ^ (16 - (j + 1)) * 2 := by rw [show 16 - j = (16 - (j + 1)) + 1 by omega, Nat.pow_succ]
        have e16 : (65536 : Nat) = 2 ^ (16 - j) * 2 ^ j := by rw [← Nat.pow_add, show 16 - j + j = 16 by omega]
        have hd : 2 ^ (16 - (j + 1)) ∣ p := Nat.dvd_of_mod_eq_zero hm
        apply Nat.mod_eq_zero_of_dvd
        have hd2 : 2 ^ (16 - j) ∣ p * 10 := by
          rw [e, show p * 10 = p * 5 * 2 by omega]
          exact Nat.mul_dvd_mul (Nat.dvd_trans hd (Nat.dvd_mul_right _ _)) (Nat.dvd_refl 2)
        exact (Nat.dvd_mod_iff (by rw [e16]; exact Nat.dvd_mul_right _ _)).2 hd2
      obtain ⟨i1, i2, i3⟩ := ih (p * 10 % 65536) (by omega) hm' (by omega)
      obtain ⟨hd, hv⟩ := digit_is (p * 10 / 65536) (by omega)
      have e : fracF (j + 1) p = UInt8.ofNat (48 + p * 10 / 65536) :: fracF j (p * 10 % 65536) := by rw [fracF, if_neg h0]
      rw [e]
      refine ⟨by rw [List.all_cons, hd, i1]; rfl, by simp; omega, ?_⟩
      intro a t m ht hm
      obtain ⟨t, rfl⟩ : ∃ t', t = t' + 1 := ⟨t - 1, by omega⟩
      rw [List.cons_append, List.take_succ_cons]
      rw [numF_cons, hv, i3 _ t m (by omega) (by omega)]
      have e1 : p * 10 ^ (t + 1) = p * 10 % 65536 * 10 ^ t + 65536 * (p * 10 / 65536 * 10 ^ t) := by
        have hdm : 65536 * (p * 10 / 65536) + p * 10 % 65536 = p * 10 := Nat.div_add_mod _ _
        rw [Nat.pow_succ, Nat.mul_comm (10 ^ t) 10, ← Nat.mul_assoc, ← Nat.mul_assoc, ← Nat.add_mul, Nat.add_comm (p * 10 % 65536), hdm]
      rw [e1, Nat.add_mul_div_left _ _ (by omega), Nat.pow_succ, Nat.add_mul, Nat.mul_assoc a 10, Nat.mul_comm 10 (10 ^ t)]
      omega

theorem scaled_frac (p : Nat) (hp : p < 65536) : (fracF 16 p).all isDig = true ∧ (fracF 16 p).length ≤ 16 ∧ scaledN (fracF 16 p) = p := by
  obtain ⟨h1, h2, h3⟩ := frac_facts 16 p hp (by simp [Nat.mod_one]) (Nat.le_refl _)
  refine ⟨h1, h2, ?_⟩
  have h := h3 0 17 17 (by omega) (by omega)
  unfold scaledN numL dec17
  rw [h, Nat.zero_mul, Nat.zero_add, show (10 : Nat) ^ 17 = 100000000000000000 by decide]
  omega

theorem frac_ne (p : Nat) (h : p ≠ 0) : fracF 16 p ≠ [] := by
  rw [fracF, if_neg h]; simp

theorem split_printed (n : Int) (h1 : -9223372036854775808 ≤ n) (h2 : n ≤ 9223372036854775807) :
    splitP (printL n) = some (decide (n < 0), Lib.decDigits (n.natAbs / 65536), fracF 16 (n.natAbs % 65536)) := by
  obtain ⟨W, hW⟩ : ∃ W, W = n.natAbs / 65536 := ⟨_, rfl⟩
  obtain ⟨P, hP⟩ : ∃ P, P = n.natAbs % 65536 := ⟨_, rfl⟩
  have hPl : P < 65536 := by omega
  obtain ⟨d1, d2, d3⟩ := dec_facts W
  have d4 : (Lib.decDigits W).length ≤ 20 := nDigits_le W (by omega)
  obtain ⟨f1, f2, f3⟩ := scaled_frac P hPl
  have hX : digitsB (Lib.decDigits W) = true := by simp [digitsB, d1, d3]
  have hR : ∃ R, R = Lib.decDigits W ++ (if P = 0 then [] else 46 :: fracF 16 P) := ⟨_, rfl⟩
  obtain ⟨R, hR⟩ := hR
  have hcut : Lib.cut R [46] = (Lib.decDigits W, fracF 16 P, !decide (P = 0)) := by
    rw [hR]
    by_cases h : P = 0
    · subst h
      rw [if_pos rfl, List.append_nil, cut_whole _ d1, fracF_zero]; rfl
    · rw [if_neg h, cut_point _ _ d1]; simp [h]
  have hlenR : R.length ≤ 37 := by
    rw [hR]
    by_cases h : P = 0
    · rw [if_pos h]; simp; omega
    · rw [if_neg h]; simp; omega
  have hY : ((!decide (P = 0)) && !digitsB (fracF 16 P)) = false := by
    by_cases h : P = 0
    · simp [h]
    · simp [digitsB, f1, frac_ne P h]
  have hpr : printL n = (if n < 0 then [45] else []) ++ R := by
    unfold printL; rw [hR, ← hW, ← hP, List.append_assoc]
  rw [← hW, ← hP]
  by_cases hn : n < 0
  · rw [if_pos hn] at hpr
    have ht : Lib.trimPrefix (printL n) [45] = R := by rw [hpr]; simp [Lib.trimPrefix, Lib.hasPrefix]
    have hp : Lib.hasPrefix (printL n) [45] = true := by rw [hpr]; simp [Lib.hasPrefix]
    have hl : ¬ 40 < (printL n).length := by rw [hpr]; simp; omega
    unfold splitP
    simp only [ht, hp, hcut, hX, hY]
    rw [if_neg hl]
    simp [hn]
  · rw [if_neg hn, List.nil_append] at hpr
    have hp : Lib.hasPrefix (printL n) [45] = false := by
      rw [hpr, hR]
      cases hd : Lib.decDigits W with
      | nil => exact absurd hd d3
      | cons c t =>
        rw [hd] at d1
        simp only [List.all_cons, Bool.and_eq_true] at d1
        rcases hb : (45 == c) with _ | _
        · simp [Lib.hasPrefix, List.isPrefixOf, hb]
        · have : (45 : UInt8) = c := by simpa using hb
          rw [← this] at d1
          exact absurd d1.1 (by decide)
    have ht : Lib.trimPrefix (printL n) [45] = R := by unfold Lib.trimPrefix; rw [hp]; simpa using hpr
    have hl : ¬ 40 < (printL n).length := by rw [hpr]; omega
    unfold splitP
    simp only [ht, hp, hcut, hX, hY]
    rw [if_neg hl]
    simp [hn]

/-- WHAT IS PRINTED IS READ AS ITSELF -/
theorem read_printed (n : Int) (h1 : -9223372036854775808 ≤ n) (h2 : n ≤ 9223372036854775807) :
    told (readE (printL n)) = .returned (.tuple #[.int .i64 n, .int .i64 0]) ∧ ¬ tooGreat (printL n) := by
  have hs := split_printed n h1 h2
  obtain ⟨_, d2, _⟩ := dec_facts (n.natAbs / 65536)
  obtain ⟨_, _, f3⟩ := scaled_frac (n.natAbs % 65536) (by omega)
  constructor
  · unfold readE
    simp only [hs, d2, f3]
    rw [if_neg (by omega)]
    have e : n.natAbs / 65536 * 65536 + n.natAbs % 65536 = n.natAbs := by omega
    rw [e]
    unfold endQ
    by_cases hn : n < 0
    · simp only [hn, decide_true, if_true]
      rw [if_neg (by omega)]
      show pair _ 0 = _
      unfold pair
      rw [show -((n.natAbs : Nat) : Int) = n by omega]
    · simp only [hn, decide_false, Bool.false_eq_true, if_false]
      rw [if_neg (by omega)]
      show pair _ 0 = _
      unfold pair
      rw [show ((n.natAbs : Nat) : Int) = n by omega]
  · rintro ⟨b, X, Y, hp, hb⟩
    rw [hs] at hp
    injection hp with hp
    injection hp with _ hp
    injection hp with hX _
    rw [← hX, d2] at hb
    omega
end Go.Proofs.YtpodgmibghcjdaaGreatDoor
