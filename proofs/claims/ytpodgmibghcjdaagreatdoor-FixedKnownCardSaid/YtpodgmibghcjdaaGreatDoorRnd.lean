/-
  How the document reads a text: its parts, and its rounding, as fixed.Read's.
-/
import Derived.Test.YtpodgmibghcjdaaGreatDoorTxt
import Derived.Test.YtpodgmibghcjdaaGreatDoorNumber
namespace Go.Proofs.YtpodgmibghcjdaaGreatDoor
open Go Go.RowKit

/-- a digit's number -/
def dg (c : UInt8) : Nat := c.toNat - 48

/-- the parts of a text behind its sign -/
def partsP (t : List UInt8) : Option (List UInt8 × List UInt8) :=
  if !digitsB (Lib.cut t [46]).1 then none else if (Lib.cut t [46]).2.2 && !digitsB (Lib.cut t [46]).2.1 then none else some ((Lib.cut t [46]).1, (Lib.cut t [46]).2.1)

theorem splitP_parts (l : List UInt8) (h : l.length ≤ 40) : splitP l = (partsP (Lib.trimPrefix l [45])).map fun p => (Lib.hasPrefix l [45], p.1, p.2) := by
  unfold splitP partsP
  simp only []
  rw [if_neg (by omega)]
  split
  · rfl
  · split <;> rfl

/-- what the document's Right has found of the text ahead -/
def RightSt (P : List UInt8) (ds : List Nat) (bh : Int) : Prop :=
  (bh = -1 ∧ P.all isDig = true ∧ ds = P.map dg) ∨ ∃ X Y, P = X ++ 46 :: Y ∧ X.all isDig = true ∧ X ≠ [] ∧ Y.all isDig = true ∧ ds = (X ++ Y).map dg ∧ bh = (Y.length : Int)

theorem st_ge {P : List UInt8} {ds : List Nat} {bh : Int} (h : RightSt P ds bh) : -1 ≤ bh ∧ bh ≤ P.length ∧ ds.length ≤ P.length := by
  rcases h with ⟨h, _, rfl⟩ | ⟨X, Y, rfl, _, _, _, rfl, h⟩
  · simp; omega
  · simp; omega

theorem st_dig {P : List UInt8} {ds : List Nat} {bh : Int} (h : RightSt P ds bh) : ∀ d ∈ ds, d < 10 := by
  have key : ∀ l : List UInt8, l.all isDig = true → ∀ d ∈ l.map dg, d < 10 := by
    intro l hl d hd
    obtain ⟨c, hc, rfl⟩ := List.mem_map.1 hd
    have := (isDig_iff c).1 (List.all_eq_true.1 hl c hc)
    unfold dg; omega
  rcases h with ⟨_, h, rfl⟩ | ⟨X, Y, rfl, h1, _, h2, rfl, _⟩
  · exact key P h
  · exact key _ (by rw [List.all_append, h1, h2]; rfl)

theorem st_digit {P : List UInt8} {ds : List Nat} {bh : Int} {c : UInt8} (h : RightSt P ds bh) (hc : isDig c = true) : RightSt (P ++ [c]) (ds ++ [dg c]) (if 0 ≤ bh then bh + 1 else bh) := by
  rcases h with ⟨rfl, h1, rfl⟩ | ⟨X, Y, rfl, h1, h2, h3, rfl, rfl⟩
  · left
    exact ⟨rfl, by rw [List.all_append, h1]; simp [hc], by simp⟩
  · right
    refine ⟨X, Y ++ [c], by simp, h1, h2, by rw [List.all_append, h3]; simp [hc], by simp, ?_⟩
    rw [if_pos (by omega)]; simp

theorem st_point {P : List UInt8} {ds : List Nat} {bh : Int} (h : RightSt P ds bh) (hb : bh < 0) (hd : ds ≠ []) : RightSt (P ++ [46]) ds 0 := by
  rcases h with ⟨rfl, h1, rfl⟩ | ⟨X, Y, rfl, h1, h2, h3, rfl, rfl⟩
  · right
    exact ⟨P, [], by simp, h1, by rintro rfl; simp at hd, rfl, by simp, rfl⟩
  · omega

theorem idx_bad (P : List UInt8) (c : UInt8) (R : List UInt8) (hP : P.all isDig = true) (hc : c ≠ 46) : Lib.indexByte (P ++ c :: R) 46 = -1 ∨ (P.length : Int) + 1 ≤ Lib.indexByte (P ++ c :: R) 46 := by
  induction P with
  | nil =>
    have hge := Lib.indexByte_ge R 46
    simp only [List.nil_append, Lib.indexByte]
    rw [if_neg (by simpa using hc)]
    by_cases h : (Lib.indexByte R 46 == -1) = true
    · rw [if_pos h]; left; rfl
    · rw [if_neg h]
      have : Lib.indexByte R 46 ≠ -1 := by simpa using h
      right
      simp; omega
  | cons d t ih =>
    simp only [List.all_cons, Bool.and_eq_true] at hP
    have hd : (d == 46) = false := by
      rcases hb : (d == 46) with _ | _
      · rfl
      · have : d = 46 := by simpa using hb
        rw [this] at hP
        exact absurd hP.1 (by decide)
    simp only [List.cons_append, Lib.indexByte, hd]
    rw [if_neg (by simp)]
    rcases ih hP.2 with h | h
    · left; rw [h]; rfl
    · right
      rw [if_neg (by simp; omega)]
      simp; omega

theorem not_digits {l : List UInt8} {c : UInt8} (hm : c ∈ l) (hc : isDig c = false) : digitsB l = false := by
  have : l.all isDig = false := by
    rcases h : l.all isDig with _ | _
    · rfl
    · have := List.all_eq_true.1 h c hm
      rw [hc] at this; cases this
  simp [digitsB, this]

theorem st_bad {P : List UInt8} {ds : List Nat} {bh : Int} {c : UInt8} (R : List UInt8) (h : RightSt P ds bh) (hc : isDig c = false) (hp : c = 46 → 0 ≤ bh ∨ ds = []) : partsP (P ++ c :: R) = none := by
  rcases h with ⟨rfl, h1, rfl⟩ | ⟨X, Y, rfl, h1, h2, h3, rfl, rfl⟩
  · by_cases h46 : c = 46
    · obtain rfl := h46
      have hP : P = [] := by
        rcases hp rfl with h | h
        · omega
        · simpa using h
      subst hP
      unfold partsP
      rw [cut_point [] R rfl]
      rfl
    · have hi := idx_bad P c R h1 h46
      unfold partsP Lib.cut
      rw [Lib.index_one]
      have hmem : ∀ n : Nat, P.length + 1 ≤ n → c ∈ (P ++ c :: R).take n := by
        intro n hn
        obtain ⟨m, rfl⟩ : ∃ m, n = P.length + 1 + m := ⟨n - (P.length + 1), by omega⟩
        rw [List.take_append, List.mem_append]
        right
        rw [show P.length + 1 + m - P.length = m + 1 by omega, List.take_succ_cons]
        simp
      rcases hi with hi | hi
      · rw [hi, if_neg (show ¬ (0 : Int) ≤ -1 by decide), not_digits (c := c) (by simp) hc]
        rfl
      · obtain ⟨n, hn⟩ : ∃ n : Nat, Lib.indexByte (P ++ c :: R) 46 = (n : Int) := ⟨(Lib.indexByte (P ++ c :: R) 46).toNat, by omega⟩
        rw [hn] at hi ⊢
        rw [if_pos (show (0 : Int) ≤ (n : Int) by omega), show ((n : Nat) : Int).toNat = n by omega, not_digits (c := c) (hmem n (by omega)) hc]
        rfl
  · rw [show (X ++ 46 :: Y) ++ c :: R = X ++ 46 :: (Y ++ c :: R) by simp]
    unfold partsP
    rw [cut_point X _ h1]
    simp only []
    have hX : digitsB X = true := by simp [digitsB, h1, h2]
    rw [hX, not_digits (c := c) (l := Y ++ c :: R) (by simp) hc]
    rfl

theorem st_end {P : List UInt8} {ds : List Nat} {bh : Int} (h : RightSt P ds bh) :
    (ds ≠ [] ∧ bh ≠ 0 → ∃ X Y, partsP P = some (X, Y) ∧ ds = (X ++ Y).map dg ∧ max bh 0 = (Y.length : Int)) ∧ (¬ (ds ≠ [] ∧ bh ≠ 0) → partsP P = none) := by
  rcases h with ⟨rfl, h1, rfl⟩ | ⟨X, Y, rfl, h1, h2, h3, rfl, rfl⟩
  · unfold partsP
    rw [cut_whole P h1]
    constructor
    · rintro ⟨h, _⟩
      have hP : P ≠ [] := by rintro rfl; simp at h
      refine ⟨P, [], ?_, by simp, by decide⟩
      have : digitsB P = true := by simp [digitsB, h1, hP]
      simp [this]
    · intro h
      have hP : P = [] := by
        rcases Classical.em (P = []) with h' | h'
        · exact h'
        · exact absurd ⟨by simpa using h', by omega⟩ h
      subst hP
      rfl
  · unfold partsP
    rw [cut_point X Y h1]
    have hX : digitsB X = true := by simp [digitsB, h1, h2]
    constructor
    · rintro ⟨_, h⟩
      have hY : Y ≠ [] := by rintro rfl; simp at h
      have hYd : digitsB Y = true := by simp [digitsB, h3, hY]
      exact ⟨X, Y, by simp [hX, hYd], rfl, by omega⟩
    · intro h
      have hY : Y = [] := by
        rcases Classical.em (Y = []) with h' | h'
        · exact h'
        · exact absurd ⟨by simpa using fun a _ => absurd a h2, by simpa using h'⟩ h
      subst hY
      simp [digitsB]

theorem sign_parts (l : List UInt8) : (∃ r, l = 45 :: r ∧ Lib.hasPrefix l [45] = true ∧ Lib.trimPrefix l [45] = r) ∨ ((∀ r, l ≠ 45 :: r) ∧ Lib.hasPrefix l [45] = false ∧ Lib.trimPrefix l [45] = l) := by
  rcases l with _ | ⟨c, r⟩
  · right; exact ⟨fun r h => by simp at h, rfl, rfl⟩
  · by_cases hc : c = 45
    · left; subst hc; exact ⟨r, rfl, by simp [Lib.hasPrefix], by simp [Lib.trimPrefix, Lib.hasPrefix]⟩
    · right
      have hp : Lib.hasPrefix (c :: r) [45] = false := by
        rcases hb : (45 == c) with _ | _
        · simp [Lib.hasPrefix, List.isPrefixOf, hb]
        · exact absurd (by simpa using hb : (45 : UInt8) = c).symm hc
      exact ⟨fun r' h => hc (by injection h), hp, by unfold Lib.trimPrefix; rw [hp]; rfl⟩

/-- the number of digits, as the document makes it -/
def decN (a : Nat) : List Nat → Nat
  | [] => a
  | d :: r => decN (a * 10 + d) r

theorem decN_cons (a d : Nat) (r : List Nat) : decN a (d :: r) = decN (a * 10 + d) r := by kernel_rfl
theorem decN_nil (a : Nat) : decN a [] = a := rfl

theorem decN_append (l r : List Nat) : ∀ a, decN a (l ++ r) = decN (decN a l) r := by
  induction l with
  | nil => intro a; rfl
  | cons c t ih => intro a; rw [List.cons_append, decN_cons, decN_cons]; exact ih _

theorem decN_map (l : List UInt8) : ∀ a, decN a (l.map dg) = numF a l := by
  induction l with
  | nil => intro a; rfl
  | cons c t ih => intro a; rw [List.map_cons, decN_cons, numF_cons]; exact ih _

theorem numF_shift (l : List UInt8) : ∀ a, numF a l = a * 10 ^ l.length + numL l := by
  induction l with
  | nil => intro a; simp [numF_nil, numL]
  | cons c t ih =>
    intro a
    unfold numL
    rw [numF_cons, numF_cons, ih (a * 10 + (c.toNat - 48)), ih (0 * 10 + (c.toNat - 48)), List.length_cons, Nat.pow_succ, Nat.zero_mul, Nat.zero_add, Nat.add_mul, Nat.mul_assoc a 10, Nat.mul_comm 10]
    omega

theorem numL_append (X Y : List UInt8) : numL (X ++ Y) = numL X * 10 ^ Y.length + numL Y := by
  show numF 0 (X ++ Y) = _
  rw [numF_append, numF_shift]
  rfl

theorem numL_lt (Y : List UInt8) (h : Y.all isDig = true) : numL Y < 10 ^ Y.length := by
  have := numF_lt Y 0 0 h (by simp)
  show numF 0 Y < _
  simpa using this

/-- a quotient, rounded by its half, the document's way -/
def halfUp (A d : Nat) : Nat := if 2 * (A % d) < d then A / d else A / d + 1

theorem halfUp_eq (A d : Nat) (hd : 0 < d) : halfUp A d = (2 * A + d) / (2 * d) := by
  unfold halfUp
  have hdm := Nat.div_add_mod A d
  have hlt := Nat.mod_lt A hd
  generalize A / d = q at *
  generalize A % d = r at *
  subst hdm
  have e : 2 * (d * q + r) + d = 2 * d * q + (2 * r + d) := by rw [Nat.mul_add, Nat.mul_assoc]; omega
  rw [e, Nat.mul_add_div (by omega)]
  by_cases h : 2 * r < d
  · rw [if_pos h, Nat.div_eq_of_lt (by omega)]; rfl
  · rw [if_neg h]
    have : (2 * r + d) / (2 * d) = 1 := by
      rw [Nat.div_eq_iff (by omega)]; omega
    rw [this]

theorem dec17_long (Y : List UInt8) (m : Nat) (hl : Y.length = 17 + m) : dec17 Y = Y.take 17 := by
  unfold dec17
  rw [List.take_append_of_le_length (by omega)]

theorem dec17_short (Y : List UInt8) (m : Nat) (hl : Y.length + m = 17) : dec17 Y = Y ++ List.replicate m 48 := by
  unfold dec17
  rw [List.take_append, List.take_of_length_le (by omega), List.take_replicate, Nat.min_eq_left (by omega)]
  congr 2
  omega

theorem scaled_half (Y : List UInt8) (h : Y.all isDig = true) : scaledN Y = halfUp (numL Y * 65536) (10 ^ Y.length) := by
  rw [halfUp_eq _ _ (Nat.pow_pos (by omega))]
  unfold scaledN
  rcases Nat.le_total Y.length 17 with hl | hl
  · obtain ⟨m, hm⟩ : ∃ m, Y.length + m = 17 := ⟨17 - Y.length, by omega⟩
    rw [dec17_short Y m hm]
    have e : numL (Y ++ List.replicate m 48) = numL Y * 10 ^ m := by
      show numF 0 _ = _
      rw [numF_append, numF_zeros]; rfl
    rw [e]
    have e17 : (100000000000000000 : Nat) = 10 ^ Y.length * 10 ^ m := by rw [← Nat.pow_add, hm]
    have e18 : (200000000000000000 : Nat) = 2 * 10 ^ Y.length * 10 ^ m := by rw [Nat.mul_assoc, ← e17]
    rw [e18]
    have e3 : numL Y * 10 ^ m * 131072 + 100000000000000000 = (2 * (numL Y * 65536) + 10 ^ Y.length) * 10 ^ m := by
      rw [e17, Nat.add_mul, show 2 * (numL Y * 65536) = numL Y * 131072 by omega, Nat.mul_right_comm]
    rw [e3, Nat.mul_div_mul_right _ _ (Nat.pow_pos (by omega))]
  · obtain ⟨m, hm⟩ : ∃ m, Y.length = 17 + m := ⟨Y.length - 17, by omega⟩
    rw [dec17_long Y m hm]
    have e : numL Y = numL (Y.take 17) * 10 ^ m + numL (Y.drop 17) := by
      have := numL_append (Y.take 17) (Y.drop 17)
      rw [List.take_append_drop, List.length_drop, show Y.length - 17 = m by omega] at this
      exact this
    have hr : numL (Y.drop 17) < 10 ^ m := by
      have := numL_lt (Y.drop 17) (by rw [List.all_eq_true]; intro c hc; exact List.all_eq_true.1 h c (List.mem_of_mem_drop hc))
      rwa [List.length_drop, show Y.length - 17 = m by omega] at this
    rw [e, hm]
    generalize numL (Y.drop 17) = r at *
    generalize numL (Y.take 17) = n at *
    rw [Nat.pow_add]
    have hp : 0 < 10 ^ m := Nat.pow_pos (by omega)
    generalize 10 ^ m = E at *
    have e1 : 2 * ((n * E + r) * 65536) + 10 ^ 17 * E = 131072 * ((n + 762939453125) * E + r) := by
      rw [show (10 : Nat) ^ 17 = 131072 * 762939453125 by decide, Nat.mul_assoc, Nat.add_mul n]
      omega
    have e2 : 2 * (10 ^ 17 * E) = 131072 * (E * 1525878906250) := by
      rw [show (10 : Nat) ^ 17 = 131072 * 762939453125 by decide]
      omega
    rw [e1, e2, Nat.mul_div_mul_left _ _ (by omega), ← Nat.div_div_eq_div_mul, Nat.mul_comm _ E, Nat.mul_add_div hp, Nat.div_eq_of_lt hr, Nat.add_zero]
    have e3 : n * 131072 + 100000000000000000 = 131072 * (n + 762939453125) := by omega
    rw [e3, show (200000000000000000 : Nat) = 131072 * 1525878906250 by decide, Nat.mul_div_mul_left _ _ (by omega)]

/-- how the document's Read ends, by its digits -/
theorem read_half (b : Bool) (X Y : List UInt8) (hY : Y.all isDig = true) :
    told (endQ (halfUp (numL (X ++ Y) * 65536) (10 ^ Y.length)) b) = told (if 18446744073709551615 < numL X then gone 10 else endQ (numL X * 65536 + scaledN Y) b) := by
  have hp : 0 < 10 ^ Y.length := Nat.pow_pos (by omega)
  have e : halfUp (numL (X ++ Y) * 65536) (10 ^ Y.length) = numL X * 65536 + scaledN Y := by
    rw [scaled_half Y hY, halfUp_eq _ _ hp, halfUp_eq _ _ hp, numL_append]
    generalize 10 ^ Y.length = D at *
    have e1 : 2 * ((numL X * D + numL Y) * 65536) + D = 2 * D * (numL X * 65536) + (2 * (numL Y * 65536) + D) := by
      rw [Nat.add_mul, Nat.mul_right_comm (numL X) D, Nat.mul_assoc 2 D, Nat.mul_comm D]
      omega
    rw [e1, Nat.mul_add_div (by omega)]
  rw [e]
  by_cases h : 18446744073709551615 < numL X
  · rw [if_pos h, told_big _ _ (by omega)]
    rfl
  · rw [if_neg h]
end Go.Proofs.YtpodgmibghcjdaaGreatDoor
