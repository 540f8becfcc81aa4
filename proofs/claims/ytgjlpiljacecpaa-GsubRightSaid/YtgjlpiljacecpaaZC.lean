/-
  What is reversed, what is inserted, the pivot: by the kit's plain sort.
-/
import Derived.Test.YtgjlpiljacecpaaZB
import Derived.Test.YtgjlpiljacecpaaZ2
namespace Go.Proofs.Ytgjlpiljacecpaa
open Go Go.RowKit
set_option linter.unusedVariables false
set_option linter.unusedSectionVars false
set_option linter.unusedSimpArgs false
theorem rev_L1 (N : Nat) : ∀ (k i j : Nat) (l : List Int), j - i < k → j < l.length → l.length ≤ 400000000 → i ≤ 400000000 →
    ∃ l', zRev_L1 N k l (i : Int) (j : Int) = some l' ∧ Sort.reverseLoop i j l.toArray = l'.toArray ∧ l'.length = l.length
  | 0, _, _, _, h, _, _, _ => absurd h (Nat.not_lt_zero _)
  | k + 1, i, j, l, hk, hj, hl, hi => by
    unfold zRev_L1
    rw [Sort.reverseLoop]
    by_cases h : i < j
    · obtain ⟨l', e1, e2, e3⟩ := rev_L1 N k (i + 1) (j - 1) (swL l i j) (by omega) (by rw [swL_len]; omega) (by rw [swL_len]; exact hl) (by omega)
      rw [if_pos (by omega), if_pos h, sw_arr, zwp i (by omega), zwm j (by omega) (by omega)]
      exact ⟨l', (sw_run (i := i) (j := j) (by omega) (by omega) (fun l2 => zRev_L1 N k l2 ((i + 1 : Nat) : Int) ((j - 1 : Nat) : Int))).trans e1, e2, by rw [e3, swL_len]⟩
    · rw [if_neg (by omega), if_neg h]
      exact ⟨l, rfl, rfl, rfl⟩
theorem rev_eq (N a b : Nat) (l : List Int) (hab : a < b) (hb : b ≤ l.length) (hN : b < N) (hl : l.length ≤ 400000000) : ∃ l', zRev N l (a : Int) (b : Int) = some l' ∧ Sort.reverseRange l.toArray a b = l'.toArray ∧ l'.length = l.length := by
  unfold zRev Sort.reverseRange
  rw [zwm b (by omega) (by omega)]
  exact rev_L1 N N a (b - 1) l (by omega) (by omega) hl (by omega)
theorem scan_ge (d : Array Int) (b : Nat) : ∀ (n i : Nat), b - i ≤ n → i ≤ b → i ≤ Sort.scanSorted Sort.ltInt d b i ∧ Sort.scanSorted Sort.ltInt d b i ≤ b
  | 0, i, h, hi => by
    rw [Sort.scanSorted, if_neg (by simp; omega)]
    omega
  | n + 1, i, h, hi => by
    rw [Sort.scanSorted]
    split
    · rename_i hc
      simp only [Bool.and_eq_true, decide_eq_true_eq] at hc
      have := scan_ge d b n (i + 1) (by omega) (by omega)
      omega
    · omega
theorem part_L2 (N b : Nat) (l : List Int) (hb : b ≤ l.length) (hl : l.length ≤ 400000000) : ∀ (k i : Nat), b - i < k → 0 < i → i ≤ b → zPart_L2 N (b : Int) l k (i : Int) = some ((Sort.scanSorted Sort.ltInt l.toArray b i : Nat) : Int)
  | 0, _, h, _, _ => absurd h (Nat.not_lt_zero _)
  | k + 1, i, hk, h0, hi => by
    unfold zPart_L2
    rw [Sort.scanSorted]
    by_cases h : i < b
    · rw [if_pos (by omega), zix (by omega), Option.bind_some, zwm i (by omega) h0, zix (by omega), Option.bind_some, zLess_eq, Option.bind_some, arr_get, arr_get, zwp i (by omega)]
      cases hc : Sort.ltInt (l.getD i 0) (l.getD (i - 1) 0) with
      | true => rw [if_neg (by simp)]
      | false =>
        rw [if_pos (by simp [h])]
        exact part_L2 N b l hb hl k (i + 1) (by omega) (by omega) (by omega)
    · rw [if_neg (by omega), if_neg (by simp [h])]
theorem part_L3 (N : Nat) : ∀ (j k : Nat) (l : List Int), j < k → j < l.length → l.length ≤ 400000000 →
    ∃ l', zPart_L3 N k l (j : Int) = some l' ∧ Sort.shiftDown Sort.ltInt j l.toArray = l'.toArray ∧ l'.length = l.length
  | _, 0, _, h, _, _ => absurd h (Nat.not_lt_zero _)
  | 0, k + 1, l, _, _, _ => by
    unfold zPart_L3
    rw [if_neg (by omega)]
    exact ⟨l, rfl, rfl, rfl⟩
  | j + 1, k + 1, l, hk, hj, hl => by
    unfold zPart_L3 Sort.shiftDown
    rw [if_pos (by omega), zix hj, Option.bind_some, zwm (j + 1) (by omega) (by omega), show j + 1 - 1 = j by omega, zix (by omega), Option.bind_some, zLess_eq, Option.bind_some, arr_get, arr_get]
    cases hc : Sort.ltInt (l.getD (j + 1) 0) (l.getD j 0) with
    | true =>
      obtain ⟨l', e1, e2, e3⟩ := part_L3 N j k (swL l (j + 1) j) (by omega) (by rw [swL_len]; omega) (by rw [swL_len]; exact hl)
      refine ⟨l', (sw_run2 (j := j) hj (by omega) (fun l2 => zPart_L3 N k l2 (j : Int))).trans e1, ?_, by rw [e3, swL_len]⟩
      rw [if_neg (by simp), sw_arr]
      exact e2
    | false => exact ⟨l, rfl, by rw [if_pos (by rfl)], rfl⟩
theorem part_L4 (N b x : Nat) : ∀ (k j : Nat) (l : List Int), b - j < k → 0 < j → j ≤ 400000000 → b ≤ l.length → l.length ≤ 400000000 →
    ∃ l', zPart_L4 N (b : Int) (x : Int) k l (j : Int) = some (Ctl.go (l', (x : Int))) ∧ Sort.shiftUp Sort.ltInt b j l.toArray = l'.toArray ∧ l'.length = l.length
  | 0, _, _, h, _, _, _, _ => absurd h (Nat.not_lt_zero _)
  | k + 1, j, l, hk, h0, hj4, hb, hl => by
    unfold zPart_L4
    rw [Sort.shiftUp]
    by_cases h : j < b
    · rw [if_pos (by omega), zix (by omega), Option.bind_some, zwm j (by omega) h0, zix (by omega), Option.bind_some, zLess_eq, Option.bind_some, arr_get, arr_get, if_pos h, zwp j (by omega)]
      cases hc : Sort.ltInt (l.getD j 0) (l.getD (j - 1) 0) with
      | true =>
        obtain ⟨l', e1, e2, e3⟩ := part_L4 N b x k (j + 1) (swL l j (j - 1)) (by omega) (by omega) (by omega) (by rw [swL_len]; exact hb) (by rw [swL_len]; exact hl)
        refine ⟨l', (sw_run2 (i := j) (j := j - 1) (by omega) (by omega) (fun l2 => zPart_L4 N (b : Int) (x : Int) k l2 ((j + 1 : Nat) : Int))).trans e1, ?_, by rw [e3, swL_len]⟩
        rw [if_neg (by simp), sw_arr]
        exact e2
      | false => exact ⟨l, rfl, by rw [if_pos (by rfl)], rfl⟩
    · rw [if_neg (by omega), if_neg h]
      exact ⟨l, rfl, rfl, rfl⟩
def finP : Ctl (List Int) (Bool × List Int) → Bool × List Int
  | Ctl.go l => (false, l)
  | Ctl.ret r => r
theorem part_L1 (N a b : Nat) (hN : b < N) (hab : a < b) : ∀ (s k i t : Nat) (l : List Int), t + s = 5 → s < k → a < i → i ≤ b → b ≤ l.length → l.length ≤ 400000000 →
    ∃ r, zPart_L1 N (a : Int) (b : Int) k l (i : Int) (t : Int) = some r ∧ Sort.partialIns Sort.ltInt a b s i l.toArray = ((finP r).2.toArray, (finP r).1) ∧ (finP r).2.length = l.length
  | _, 0, _, _, _, _, h, _, _, _, _ => absurd h (Nat.not_lt_zero _)
  | 0, k + 1, i, t, l, ht, hk, hai, hi, hb, hl => by
    unfold zPart_L1 Sort.partialIns
    rw [if_neg (by omega)]
    exact ⟨Ctl.go l, rfl, rfl, rfl⟩
  | s + 1, k + 1, i, t, l, ht, hk, hai, hi, hb, hl => by
    unfold zPart_L1 Sort.partialIns
    rw [if_pos (by omega), part_L2 N b l hb hl N i (by omega) (by omega) hi, Option.bind_some]
    obtain ⟨g1, g2⟩ := scan_ge l.toArray b (b - i) i (Nat.le_refl _) hi
    simp only
    generalize Sort.scanSorted Sort.ltInt l.toArray b i = i at g1 g2 ⊢
    by_cases h1 : i = b
    · rw [if_pos (by omega), if_pos h1]
      exact ⟨Ctl.ret (true, l), rfl, rfl, rfl⟩
    rw [if_neg (by omega), if_neg h1, zmm b a (by omega) (by omega)]
    by_cases h2 : b - a < 50
    · rw [if_pos (by omega), if_pos h2]
      exact ⟨Ctl.ret (false, l), rfl, rfl, rfl⟩
    rw [if_neg (by omega), if_neg h2, zwm i (by omega) (by omega), zmm i a (by omega) (by omega), zmm b i (by omega) (by omega), zwp i (by omega), sw_arr]
    have hsl := swL_len l i (i - 1)
    -- down
    obtain ⟨l1, d1, d2, d3⟩ : ∃ l1, ((if ((i - a : Nat) : Int) ≥ 2 then zPart_L3 N N (swL l i (i - 1)) ((i - 1 : Nat) : Int) else some (swL l i (i - 1))) : Option (List Int)) = some l1 ∧ (if i - a ≥ 2 then Sort.shiftDown Sort.ltInt (i - 1) (swL l i (i - 1)).toArray else (swL l i (i - 1)).toArray) = l1.toArray ∧ l1.length = l.length := by
      by_cases h3 : i - a ≥ 2
      · obtain ⟨l1, e1, e2, e3⟩ := part_L3 N (i - 1) N (swL l i (i - 1)) (by omega) (by omega) (by omega)
        rw [if_pos (by omega), if_pos h3]
        exact ⟨l1, e1, e2, by omega⟩
      · rw [if_neg (by omega), if_neg h3]
        exact ⟨_, rfl, rfl, hsl⟩
    -- up
    obtain ⟨l2, u1, u2, u3⟩ : ∃ l2, ((if ((b - i : Nat) : Int) ≥ 2 then zPart_L4 N (b : Int) (i : Int) N l1 ((i + 1 : Nat) : Int) else some (Ctl.go (l1, (i : Int)))) : Option (Ctl (List Int × Int) (Bool × List Int))) = some (Ctl.go (l2, (i : Int))) ∧ (if b - i ≥ 2 then Sort.shiftUp Sort.ltInt b (i + 1) l1.toArray else l1.toArray) = l2.toArray ∧ l2.length = l.length := by
      by_cases h3 : b - i ≥ 2
      · obtain ⟨l2, e1, e2, e3⟩ := part_L4 N b i N (i + 1) l1 (by omega) (by omega) (by omega) (by omega) (by omega)
        rw [if_pos (by omega), if_pos h3]
        exact ⟨l2, e1, e2, by omega⟩
      · rw [if_neg (by omega), if_neg h3]
        exact ⟨_, rfl, rfl, d3⟩
    obtain ⟨r, r1, r2, r3⟩ := part_L1 N a b hN hab s k i (t + 1) l2 (by omega) (by omega) (by omega) (by omega) (by omega) (by omega)
    refine ⟨r, ?_, ?_, by omega⟩
    · refine zto (a := Ctl.go (l2, (i : Int))) ?_ ?_
      · refine (sw_run (i := i) (j := i - 1) (by omega) (by omega) _).trans ?_
        exact zto d1 u1
      · simp only
        rw [zwp t (by omega)]
        exact r1
    · rw [d2, u2]
      exact r2
theorem part_eq (N a b : Nat) (l : List Int) (hab : a < b) (hb : b ≤ l.length) (hN : b < N) (hN5 : 5 < N) (hl : l.length ≤ 400000000) : ∃ t l', zPart N l (a : Int) (b : Int) = some (t, l') ∧ Sort.partialInsertionSort Sort.ltInt l.toArray a b = (l'.toArray, t) ∧ l'.length = l.length := by
  unfold zPart Sort.partialInsertionSort
  rw [zwp a (by omega)]
  obtain ⟨r, r1, r2, r3⟩ := part_L1 N a b hN hab 5 N (a + 1) 0 l rfl hN5 (by omega) (by omega) hb hl
  have r1' : zPart_L1 N (a : Int) (b : Int) N l ((a + 1 : Nat) : Int) 0 = some r := r1
  rw [r1', Option.bind_some]
  cases r with
  | go l' => exact ⟨false, l', rfl, r2, r3⟩
  | ret r => exact ⟨r.1, r.2, rfl, r2, r3⟩
theorem ord_eq (N : Nat) (l : List Int) (a b s : Nat) (ha : a < l.length) (hb : b < l.length) (hs : s ≤ 100) : zOrd N l (a : Int) (b : Int) (s : Int) = some ((((Sort.order2 Sort.ltInt l.toArray a b s).1 : Nat) : Int), (((Sort.order2 Sort.ltInt l.toArray a b s).2.1 : Nat) : Int), (((Sort.order2 Sort.ltInt l.toArray a b s).2.2 : Nat) : Int)) := by
  unfold zOrd Sort.order2
  rw [zix hb, Option.bind_some, zix ha, Option.bind_some, zLess_eq, Option.bind_some, arr_get, arr_get]
  cases Sort.ltInt (l.getD b 0) (l.getD a 0) with
  | true => simp only; rw [zwp s (by omega)]; rfl
  | false => rfl
theorem ord_in (d : Array Int) (a b s : Nat) (n : Nat) (ha : a < n) (hb : b < n) : (Sort.order2 Sort.ltInt d a b s).1 < n ∧ (Sort.order2 Sort.ltInt d a b s).2.1 < n ∧ (Sort.order2 Sort.ltInt d a b s).2.2 ≤ s + 1 := by
  unfold Sort.order2
  split <;> exact ⟨by assumption, by assumption, by simp⟩
theorem med_eq (N : Nat) (l : List Int) (a b c s : Nat) (ha : a < l.length) (hb : b < l.length) (hc : c < l.length) (hs : s ≤ 50) : zMed N l (a : Int) (b : Int) (c : Int) (s : Int) = some ((((Sort.median Sort.ltInt l.toArray a b c s).1 : Nat) : Int), (((Sort.median Sort.ltInt l.toArray a b c s).2 : Nat) : Int)) ∧ (Sort.median Sort.ltInt l.toArray a b c s).1 < l.length ∧ (Sort.median Sort.ltInt l.toArray a b c s).2 ≤ s + 3 := by
  unfold zMed Sort.median
  obtain ⟨i1, i2, i3⟩ := ord_in l.toArray a b s l.length ha hb
  rw [ord_eq N l a b s ha hb (by omega), Option.bind_some]
  simp only
  generalize Sort.order2 Sort.ltInt l.toArray a b s = r1 at i1 i2 i3 ⊢
  obtain ⟨j1, j2, j3⟩ := ord_in l.toArray r1.2.1 c r1.2.2 l.length i2 hc
  rw [ord_eq N l r1.2.1 c r1.2.2 i2 hc (by omega), Option.bind_some]
  simp only
  generalize Sort.order2 Sort.ltInt l.toArray r1.2.1 c r1.2.2 = r2 at j1 j2 j3 ⊢
  obtain ⟨k1, k2, k3⟩ := ord_in l.toArray r1.1 r2.1 r2.2.2 l.length i1 j1
  rw [ord_eq N l r1.1 r2.1 r2.2.2 i1 j1 (by omega), Option.bind_some]
  exact ⟨rfl, k2, by omega⟩
theorem adj_eq (N : Nat) (l : List Int) (a s : Nat) (h0 : 0 < a) (ha : a + 1 < l.length) (hl : l.length ≤ 400000000) (hs : s ≤ 50) : zAdj N l (a : Int) (s : Int) = some ((((Sort.medianAdjacent Sort.ltInt l.toArray a s).1 : Nat) : Int), (((Sort.medianAdjacent Sort.ltInt l.toArray a s).2 : Nat) : Int)) ∧ (Sort.medianAdjacent Sort.ltInt l.toArray a s).1 < l.length ∧ (Sort.medianAdjacent Sort.ltInt l.toArray a s).2 ≤ s + 3 := by
  unfold zAdj Sort.medianAdjacent
  obtain ⟨e1, e2, e3⟩ := med_eq N l (a - 1) a (a + 1) s (by omega) (by omega) ha hs
  rw [zwm a (by omega) h0, zwp a (by omega), e1]
  exact ⟨rfl, e2, e3⟩
def hcode : Sort.Hint → Int
  | .unknown => 0
  | .increasing => 1
  | .decreasing => 2
theorem piv_eq (N a b : Nat) (l : List Int) (hab : a < b) (hb : b ≤ l.length) (hl : l.length ≤ 400000000) : zPiv N l (a : Int) (b : Int) = some ((((Sort.choosePivot Sort.ltInt l.toArray a b).1 : Nat) : Int), hcode (Sort.choosePivot Sort.ltInt l.toArray a b).2) := by
  unfold zPiv Sort.choosePivot
  have q : IntKind.i64.wrap (Int.tdiv ((b - a : Nat) : Int) 4) = (((b - a) / 4 : Nat) : Int) := by
    rw [Int.tdiv_eq_ediv_of_nonneg (by omega), zw64 (by omega) (by omega)]; omega
  have q1 : IntKind.i64.wrap ((((b - a) / 4 : Nat) : Int) * 1) = (((b - a) / 4 * 1 : Nat) : Int) := by rw [zw64 (by omega) (by omega)]; omega
  have q2 : IntKind.i64.wrap ((((b - a) / 4 : Nat) : Int) * 2) = (((b - a) / 4 * 2 : Nat) : Int) := by rw [zw64 (by omega) (by omega)]; omega
  have q3 : IntKind.i64.wrap ((((b - a) / 4 : Nat) : Int) * 3) = (((b - a) / 4 * 3 : Nat) : Int) := by rw [zw64 (by omega) (by omega)]; omega
  rw [zmm b a (by omega) (by omega), q, q1, q2, q3, zpp a _ (by omega) (by omega), zpp a _ (by omega) (by omega), zpp a _ (by omega) (by omega)]
  have fin : ∀ r : Nat × Nat, (if ((r.2 : Nat) : Int) = 0 then some (((r.1 : Nat) : Int), (1 : Int)) else (if ((r.2 : Nat) : Int) = 12 then some (((r.1 : Nat) : Int), (2 : Int)) else some (((r.1 : Nat) : Int), (0 : Int)))) = some (((r.1 : Nat) : Int), hcode (if r.2 = 0 then .increasing else if r.2 = 12 then .decreasing else .unknown)) := by
    intro r
    by_cases h1 : r.2 = 0
    · rw [if_pos (by omega), if_pos h1]; rfl
    by_cases h2 : r.2 = 12
    · rw [if_neg (by omega), if_pos (by omega), if_neg h1, if_pos h2]; rfl
    · rw [if_neg (by omega), if_neg (by omega), if_neg h1, if_neg h2]; rfl
  dsimp only
  by_cases h8 : b - a ≥ 8
  · have hi : 0 < a + (b - a) / 4 * 1 ∧ a + (b - a) / 4 * 1 + 1 < l.length := by omega
    have hj : 0 < a + (b - a) / 4 * 2 ∧ a + (b - a) / 4 * 2 + 1 < l.length := by omega
    have hk : 0 < a + (b - a) / 4 * 3 ∧ a + (b - a) / 4 * 3 + 1 < l.length := by omega
    rw [if_pos (by omega), if_pos h8]
    generalize a + (b - a) / 4 * 1 = i at hi ⊢
    generalize a + (b - a) / 4 * 2 = j at hj ⊢
    generalize a + (b - a) / 4 * 3 = k at hk ⊢
    by_cases h50 : b - a ≥ 50
    · rw [if_pos (by omega), if_pos h50]
      obtain ⟨e1, f1, g1⟩ := adj_eq N l i 0 hi.1 hi.2 hl (by omega)
      have e1' : zAdj N l (i : Int) 0 = _ := e1
      obtain ⟨e2, f2, g2⟩ := adj_eq N l j _ hj.1 hj.2 hl (Nat.le_trans g1 (by omega))
      obtain ⟨e3, f3, g3⟩ := adj_eq N l k _ hk.1 hk.2 hl (Nat.le_trans g2 (by omega))
      obtain ⟨e4, f4, g4⟩ := med_eq N l _ _ _ _ f1 f2 f3 (Nat.le_trans g3 (by omega))
      rw [e1', Option.bind_some]
      simp only
      rw [e2, Option.bind_some]
      simp only
      rw [e3, Option.bind_some]
      simp only
      rw [e4, Option.bind_some]
      exact zto rfl (fin (_, _))
    · rw [if_neg (by omega), if_neg h50]
      obtain ⟨e1, f1, g1⟩ := med_eq N l i j k 0 (by omega) (by omega) (by omega) (by omega)
      have e1' : zMed N l (i : Int) (j : Int) (k : Int) 0 = _ := e1
      rw [e1']
      exact zto rfl (fin (_, _))
  · rw [if_neg (by omega), if_neg h8]
    exact zto rfl (fin (_, 0))
end Go.Proofs.Ytgjlpiljacecpaa
