/-
  Weak classes, by lists: the document's rules.
-/
import Derived.Test.YtdpcaidhpccaiaaR1
namespace Go.Proofs.Ytdpcaidhpccaiaa
open Go Go.RowKit
set_option linter.unusedVariables false
set_option linter.unusedSectionVars false
set_option linter.unusedSimpArgs false

theorem w64e {x : Int} (h0 : -9223372036854775808 ≤ x) (h1 : x ≤ 9223372036854775807) : IntKind.i64.wrap x = x := by rw [IntKind.wrap_i64]; omega
theorem w8e {x : Int} (h0 : 0 ≤ x) (h1 : x ≤ 255) : IntKind.u8.wrap x = x := by rw [IntKind.wrap_u8]; omega
theorem wne (i : Nat) (h : i ≤ 1000000000) : IntKind.i64.wrap ((i : Int) + 1) = ((i + 1 : Nat) : Int) := by rw [w64e (by omega) (by omega)]; simp
theorem wme (i : Nat) (h : i ≤ 1000000000) (h0 : 0 < i) : IntKind.i64.wrap ((i : Int) - 1) = ((i - 1 : Nat) : Int) := by rw [w64e (by omega) (by omega)]; omega
theorem ixe {l : List Int} {i : Nat} (h : i < l.length) : ix l (i : Int) = some (l.getD i 0) := by unfold ix; rw [if_pos (by omega)]; rfl
theorem setxe {l : List Int} {i : Nat} (v : Int) (h : i < l.length) : setx l (i : Int) v = some (l.set i v) := by unfold setx; rw [if_pos (by omega)]; simp
theorem drop_e {l : List Int} {i : Nat} (h : i < l.length) : l.drop i = l.getD i 0 :: l.drop (i + 1) := by
  rw [List.drop_eq_getElem_cons h, List.getD_eq_getElem?_getD, List.getElem?_eq_getElem h]; rfl
theorem apx_to (l m : List Int) (h : l.length + m.length ≤ 1000000000) : apx l m = some (l ++ m) := by unfold apx; rw [if_pos h]
theorem mkx_nat (n : Nat) (h : n ≤ 1000000000) : mkx (n : Int) = some (List.replicate n 0) := by unfold mkx; rw [if_pos (by omega)]; simp
theorem take_set_lt (l : List Int) (j : Nat) (v : Int) : (l.set j v).take j = l.take j := by
  apply List.ext_getElem?
  intro m
  rw [List.getElem?_take, List.getElem?_take]
  by_cases h : m < j
  · rw [if_pos h, if_pos h, List.getElem?_set, if_neg (by omega)]
  · rw [if_neg h, if_neg h]
theorem take_succ_set (l : List Int) (j : Nat) (v : Int) (h : j < l.length) : (l.set j v).take (j + 1) = l.take j ++ [v] := by
  rw [List.take_succ_eq_append_getElem (by simpa using h), take_set_lt]
  simp
theorem take_succ_e (l : List Int) (j : Nat) (h : j < l.length) : l.take (j + 1) = l.take j ++ [l.getD j 0] := by
  rw [List.take_succ_eq_append_getElem h, List.getD_eq_getElem?_getD, List.getElem?_eq_getElem h]; rfl
theorem drop_set_ge (l : List Int) (j : Nat) (v : Int) : (l.set j v).drop (j + 1) = l.drop (j + 1) := List.drop_set_of_lt (by omega)

/-! ### the rules -/
def isIso (c : Int) : Bool := decide (20 ≤ c ∧ c ≤ 23)
def w1S : Int → List Int → List Int
  | _, [] => []
  | b, c :: r => (if c = 9 then b else c) :: w1S (if isIso (if c = 9 then b else c) = true then 14 else if c = 9 then b else c) r
def w2S : Int → List Int → List Int
  | _, [] => []
  | s, c :: r => (if c = 4 ∧ s = 3 then 7 else c) :: w2S (if c = 1 ∨ c = 2 ∨ c = 3 then c else s) r
def w3S (l : List Int) : List Int := l.map fun c => if c = 3 then 2 else c
/-- what stands between two numbers -/
def betw (p c d : Int) : Int := if p = d ∧ (p = 4 ∧ (c = 5 ∨ c = 8) ∨ p = 7 ∧ c = 8) then p else c
def w4S : Int → List Int → List Int
  | _, [] => []
  | _, [c] => [c]
  | p, c :: d :: r => betw p c d :: w4S (betw p c d) (d :: r)
/-- is the first one that is no ET an EN? -/
def nextEN : List Int → Bool
  | [] => false
  | c :: r => if c = 6 then nextEN r else decide (c = 4)
def w5S : Int → List Int → List Int
  | _, [] => []
  | p, c :: r => (if c = 6 ∧ (p = 4 ∨ nextEN r = true) then 4 else c) :: w5S (if c = 6 ∧ (p = 4 ∨ nextEN r = true) then 4 else c) r
def w6S (l : List Int) : List Int := l.map fun c => if c = 5 ∨ c = 6 ∨ c = 8 then 14 else c
def w7S : Int → List Int → List Int
  | _, [] => []
  | s, c :: r => (if c = 4 ∧ s = 1 then 1 else c) :: w7S (if c = 1 ∨ c = 2 then c else s) r
def w4T : List Int → List Int
  | [] => []
  | c :: r => c :: w4S c r
def sosS (s : Int) : Int := if s = 2 then 2 else 1
def noBN (l : List Int) : List Int := l.filter fun c => c ≠ 10
def rowW (s : Int) (l : List Int) : List Int := w7S s (w6S (w5S 0 (w4T (w3S (w2S s (w1S s l))))))
/-- the row, BN put in again -/
def mergeB : List Int → List Int → List Int
  | [], _ => []
  | c :: l, row => if c = 10 then 10 :: mergeB l row else match row with
    | [] => []
    | x :: row => x :: mergeB l row
theorem mergeB_bn (l row : List Int) : mergeB (10 :: l) row = 10 :: mergeB l row := by cases row <;> rfl
theorem mergeB_no {c : Int} (h : c ≠ 10) (l : List Int) (x : Int) (row : List Int) : mergeB (c :: l) (x :: row) = x :: mergeB l row := by
  show (if c = 10 then _ else _) = _
  rw [if_neg h]
def weakS (l : List Int) (sos : Int) : List Int := mergeB l (rowW (sosS sos) (noBN l))

theorem w1S_len : ∀ (l : List Int) (b : Int), (w1S b l).length = l.length
  | [], _ => rfl
  | c :: r, b => by rw [w1S, List.length_cons, w1S_len r, List.length_cons]
theorem w2S_len : ∀ (l : List Int) (b : Int), (w2S b l).length = l.length
  | [], _ => rfl
  | c :: r, b => by rw [w2S, List.length_cons, w2S_len r, List.length_cons]
theorem w4S_len : ∀ (l : List Int) (b : Int), (w4S b l).length = l.length
  | [], _ => rfl
  | [c], _ => rfl
  | c :: d :: r, b => by rw [w4S, List.length_cons, w4S_len (d :: r)]; rfl
theorem w4T_len (l : List Int) : (w4T l).length = l.length := by
  cases l with
  | nil => rfl
  | cons c r => rw [w4T, List.length_cons, w4S_len, List.length_cons]
theorem w5S_len : ∀ (l : List Int) (b : Int), (w5S b l).length = l.length
  | [], _ => rfl
  | c :: r, b => by rw [w5S, List.length_cons, w5S_len r, List.length_cons]
theorem w7S_len : ∀ (l : List Int) (b : Int), (w7S b l).length = l.length
  | [], _ => rfl
  | c :: r, b => by rw [w7S, List.length_cons, w7S_len r, List.length_cons]
theorem w3S_len (l : List Int) : (w3S l).length = l.length := List.length_map ..
theorem w6S_len (l : List Int) : (w6S l).length = l.length := List.length_map ..
theorem rowW_len (s : Int) (l : List Int) : (rowW s l).length = l.length := by
  unfold rowW
  rw [w7S_len, w6S_len, w5S_len, w4T_len, w3S_len, w2S_len, w1S_len]
theorem noBN_len (l : List Int) : (noBN l).length ≤ l.length := List.length_filter_le ..

/-! ### the document's calls -/
theorem rIso_eq (N : Nat) (c : Int) : rIso N c = some (isIso c) := by
  unfold rIso isIso
  by_cases h : c ≥ 20
  · rw [if_pos h]; congr 1; simp only [decide_eq_decide]; omega
  · rw [if_neg h, decide_eq_false (by omega)]

section
variable {N : Nat} {n : Nat}

/-- a step in a list of one's own -/
theorem here (a : List Int) (i : Nat) (h : i < a.length) (f : List Int) : a.take i ++ (a.getD i 0 :: f) = a.take (i + 1) ++ f := by
  rw [take_succ_e a i h, List.append_assoc]; rfl
theorem there (a : List Int) (i : Nat) (v : Int) (h : i < a.length) (f : List Int) : a.take i ++ (v :: f) = (a.set i v).take (i + 1) ++ f := by
  rw [take_succ_set a i v h, List.append_assoc]; rfl

theorem rW1_loop (p0 : List Int) (hl : p0.length ≤ 400000000) : ∀ (k i : Nat) (a : List Int) (b : Int), p0.length - i < k → i ≤ p0.length → a.length = p0.length →
    rW1_L1 N p0 k a b (i : Int) = some (a.take i ++ w1S b (a.drop i))
  | 0, _, _, _, h, _, _ => absurd h (Nat.not_lt_zero _)
  | k + 1, i, a, b, hk, hi, ha => by
    unfold rW1_L1
    by_cases h : i < p0.length
    · have hia : i < a.length := by omega
      rw [if_pos (by omega), ixe hia, Option.bind_some, drop_e hia, w1S, wne i (by omega)]
      have ih := fun a b => rW1_loop p0 hl k (i + 1) a b (by omega) (by omega)
      by_cases h9 : a.getD i 0 = 9
      · rw [if_pos h9, if_pos h9, Option.bind_some, setxe _ hia, Option.bind_some, Option.bind_some, ixe (by rw [List.length_set]; exact hia), Option.bind_some, rIso_eq, Option.bind_some]
        have hg : (a.set i b).getD i 0 = b := by rw [List.getD_eq_getElem?_getD, List.getElem?_set_self hia]; rfl
        rw [hg, there a i b hia, ← drop_set_ge a i b]
        cases isIso b with
        | true => exact ih _ _ (by simp [ha])
        | false => exact ih _ _ (by simp [ha])
      · rw [if_neg h9, if_neg h9, Option.bind_some, ixe hia, Option.bind_some, rIso_eq, Option.bind_some, here a i hia]
        cases isIso (a.getD i 0) with
        | true => exact ih _ _ ha
        | false => exact ih _ _ ha
    · rw [if_neg (by omega), List.drop_eq_nil_of_le (by omega), List.take_of_length_le (by omega), w1S, List.append_nil]

theorem rW1_eq (l : List Int) (s : Int) (hl : l.length ≤ 400000000) (hN : l.length < N) : rW1 N l s = some (w1S s l) := by
  unfold rW1
  rw [show (0 : Int) = ((0 : Nat) : Int) from rfl, rW1_loop l hl N 0 l s (by omega) (Nat.zero_le _) rfl]
  rfl

theorem rW2_loop (p0 : List Int) (hl : p0.length ≤ 400000000) : ∀ (k i : Nat) (a : List Int) (s : Int), p0.length - i < k → i ≤ p0.length → a.length = p0.length →
    rW2_L1 N p0 k a s (i : Int) = some (a.take i ++ w2S s (a.drop i))
  | 0, _, _, _, h, _, _ => absurd h (Nat.not_lt_zero _)
  | k + 1, i, a, s, hk, hi, ha => by
    unfold rW2_L1
    by_cases h : i < p0.length
    · have hia : i < a.length := by omega
      rw [if_pos (by omega), ixe hia, Option.bind_some, drop_e hia, w2S, wne i (by omega)]
      have ih := fun a b => rW2_loop p0 hl k (i + 1) a b (by omega) (by omega)
      by_cases hs : a.getD i 0 = 1 ∨ a.getD i 0 = 2 ∨ a.getD i 0 = 3
      · have h1 : (if a.getD i 0 = 1 then some true else if a.getD i 0 = 2 then some true else if a.getD i 0 = 3 then some true else some false) = (some true : Option Bool) := by
          rcases hs with e | e | e <;> rw [e] <;> rfl
        rw [h1, if_pos hs]
        simp only [Option.bind_some]
        rw [if_neg (show ¬ (a.getD i 0 = 4 ∧ s = 3) by omega), here a i hia]
        exact ih _ _ ha
      · have h1 : (if a.getD i 0 = 1 then some true else if a.getD i 0 = 2 then some true else if a.getD i 0 = 3 then some true else some false) = (some false : Option Bool) := by
          rw [if_neg (by omega), if_neg (by omega), if_neg (by omega)]
        rw [h1, if_neg hs]
        simp only [Option.bind_some]
        by_cases h4 : a.getD i 0 = 4
        · rw [if_pos h4]
          by_cases h3 : s = 3
          · rw [if_pos h3, if_pos ⟨h4, h3⟩, setxe _ hia, Option.bind_some, there a i 7 hia, ← drop_set_ge a i 7]
            exact ih _ _ (by simp [ha])
          · rw [if_neg h3, if_neg (fun e => h3 e.2), here a i hia]
            exact ih _ _ ha
        · rw [if_neg h4, if_neg (fun e => h4 e.1), here a i hia]
          exact ih _ _ ha
    · rw [if_neg (by omega), List.drop_eq_nil_of_le (by omega), List.take_of_length_le (by omega), w2S, List.append_nil]

theorem rW3_loop (p0 : List Int) (hl : p0.length ≤ 400000000) : ∀ (k i : Nat) (a : List Int), p0.length - i < k → i ≤ p0.length → a.length = p0.length →
    rW2_L2 N p0 k a (i : Int) = some (a.take i ++ w3S (a.drop i))
  | 0, _, _, h, _, _ => absurd h (Nat.not_lt_zero _)
  | k + 1, i, a, hk, hi, ha => by
    unfold rW2_L2
    by_cases h : i < p0.length
    · have hia : i < a.length := by omega
      rw [if_pos (by omega), ixe hia, Option.bind_some, drop_e hia, wne i (by omega)]
      have ih := fun a => rW3_loop p0 hl k (i + 1) a (by omega) (by omega)
      show _ = some (a.take i ++ ((if a.getD i 0 = 3 then 2 else a.getD i 0) :: w3S (a.drop (i + 1))))
      by_cases h3 : a.getD i 0 = 3
      · rw [if_pos h3, if_pos h3, Option.bind_some, setxe _ hia, Option.bind_some, there a i 2 hia, ← drop_set_ge a i 2]
        exact ih _ (by simp [ha])
      · rw [if_neg h3, if_neg h3, here a i hia]
        exact ih _ ha
    · rw [if_neg (by omega), List.drop_eq_nil_of_le (by omega), List.take_of_length_le (by omega)]
      simp [w3S]

theorem rW2_eq (l : List Int) (s : Int) (hl : l.length ≤ 400000000) (hN : l.length < N) : rW2 N l s = some (w3S (w2S s l)) := by
  unfold rW2
  rw [show (0 : Int) = ((0 : Nat) : Int) from rfl, rW2_loop l hl N 0 l s (by omega) (Nat.zero_le _) rfl]
  simp only [Option.bind_some, List.take_zero, List.drop_zero, List.nil_append]
  rw [rW3_loop l hl N 0 _ (by omega) (Nat.zero_le _) (w2S_len l s)]
  rfl

theorem rW7_loop (p0 : List Int) (hl : p0.length ≤ 400000000) : ∀ (k i : Nat) (a : List Int) (s : Int), p0.length - i < k → i ≤ p0.length → a.length = p0.length →
    rW7_L1 N p0 k a s (i : Int) = some (a.take i ++ w7S s (a.drop i))
  | 0, _, _, _, h, _, _ => absurd h (Nat.not_lt_zero _)
  | k + 1, i, a, s, hk, hi, ha => by
    unfold rW7_L1
    by_cases h : i < p0.length
    · have hia : i < a.length := by omega
      rw [if_pos (by omega), ixe hia, Option.bind_some, drop_e hia, w7S, wne i (by omega)]
      have ih := fun a b => rW7_loop p0 hl k (i + 1) a b (by omega) (by omega)
      by_cases hs : a.getD i 0 = 1 ∨ a.getD i 0 = 2
      · have h1 : (if a.getD i 0 = 1 then some true else if a.getD i 0 = 2 then some true else some false) = (some true : Option Bool) := by
          rcases hs with e | e <;> rw [e] <;> rfl
        rw [h1, if_pos hs]
        simp only [Option.bind_some]
        rw [if_neg (show ¬ (a.getD i 0 = 4 ∧ s = 1) by omega), here a i hia]
        exact ih _ _ ha
      · have h1 : (if a.getD i 0 = 1 then some true else if a.getD i 0 = 2 then some true else some false) = (some false : Option Bool) := by
          rw [if_neg (by omega), if_neg (by omega)]
        rw [h1, if_neg hs]
        simp only [Option.bind_some]
        by_cases h4 : a.getD i 0 = 4
        · rw [if_pos h4]
          by_cases h3 : s = 1
          · rw [if_pos h3, if_pos ⟨h4, h3⟩, setxe _ hia, Option.bind_some, there a i 1 hia, ← drop_set_ge a i 1]
            exact ih _ _ (by simp [ha])
          · rw [if_neg h3, if_neg (fun e => h3 e.2), here a i hia]
            exact ih _ _ ha
        · rw [if_neg h4, if_neg (fun e => h4 e.1), here a i hia]
          exact ih _ _ ha
    · rw [if_neg (by omega), List.drop_eq_nil_of_le (by omega), List.take_of_length_le (by omega), w7S, List.append_nil]

theorem rW7_eq (l : List Int) (s : Int) (hl : l.length ≤ 400000000) (hN : l.length < N) : rW7 N l s = some (w7S s l) := by
  unfold rW7
  rw [show (0 : Int) = ((0 : Nat) : Int) from rfl, rW7_loop l hl N 0 l s (by omega) (Nat.zero_le _) rfl]
  rfl
end
end Go.Proofs.Ytdpcaidhpccaiaa
