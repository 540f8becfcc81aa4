/-
  The partitions, by the kit's plain sort.
-/
import Derived.Test.YtgjlpiljacecpaaZC
import Derived.Test.YtgjlpiljacecpaaZ3
namespace Go.Proofs.Ytgjlpiljacecpaa
open Go Go.RowKit
set_option linter.unusedVariables false
set_option linter.unusedSectionVars false
set_option linter.unusedSimpArgs false
theorem up_le (p : Int → Bool) (d : Array Int) (j : Nat) : ∀ (n i B : Nat), j + 1 - i ≤ n → i ≤ B → j + 1 ≤ B → Sort.scanUp p d j i ≤ B
  | 0, i, B, h, h1, h2 => by
    rw [Sort.scanUp, if_neg (by simp; omega)]
    exact h1
  | n + 1, i, B, h, h1, h2 => by
    rw [Sort.scanUp]
    split
    · rename_i hc
      simp only [Bool.and_eq_true, decide_eq_true_eq] at hc
      exact up_le p d j n (i + 1) B (by omega) (by omega) h2
    · exact h1
section
variable (N a : Nat) (l : List Int) (ha : a < l.length) (hl : l.length ≤ 400000000)
include ha hl
theorem eq_L2 (j : Nat) (hj : j < l.length) : ∀ (k i : Nat), j + 1 - i < k → i ≤ 400000001 → zEq_L2 N (a : Int) l (j : Int) k (i : Int) = some ((Sort.scanUp (fun x => !Sort.ltInt l.toArray[a]! x) l.toArray j i : Nat) : Int)
  | 0, _, h, _ => absurd h (Nat.not_lt_zero _)
  | k + 1, i, hk, hi => by
    unfold zEq_L2
    rw [Sort.scanUp]
    by_cases h : i ≤ j
    · rw [if_pos (by omega), zix ha, Option.bind_some, zix (by omega), Option.bind_some, zLess_eq, Option.bind_some, zwp i (by omega)]
      cases hc : Sort.ltInt (l.getD a 0) (l.getD i 0) with
      | true => rw [if_neg (by simp only [arr_get]; rw [hc]; simp)]
      | false =>
        rw [if_pos (by simp only [arr_get]; rw [hc]; simp [h])]
        exact eq_L2 j hj k (i + 1) (by omega) (by omega)
    · rw [if_neg (by omega), if_neg (by simp [h])]
theorem eq_L3 (i : Nat) (h0 : 0 < i) : ∀ (j k : Nat), j < k → j < l.length → zEq_L3 N (a : Int) l (i : Int) k (j : Int) = some ((Sort.scanDown (fun x => Sort.ltInt l.toArray[a]! x) l.toArray i j : Nat) : Int)
  | _, 0, h, _ => absurd h (Nat.not_lt_zero _)
  | 0, k + 1, hk, hj => by
    unfold zEq_L3
    rw [if_neg (by omega)]
    rfl
  | j + 1, k + 1, hk, hj => by
    unfold zEq_L3 Sort.scanDown
    by_cases h : i ≤ j + 1
    · rw [if_pos (by omega), zix ha, Option.bind_some, zix hj, Option.bind_some, zLess_eq, Option.bind_some, zwm (j + 1) (by omega) (by omega), show j + 1 - 1 = j by omega]
      cases hc : Sort.ltInt (l.getD a 0) (l.getD (j + 1) 0) with
      | true =>
        rw [if_pos (by simp only [arr_get]; rw [hc]; simp [h])]
        exact eq_L3 i h0 j k (by omega) (by omega)
      | false => rw [if_neg (by simp only [arr_get]; rw [hc]; simp)]
    · rw [if_neg (by omega), if_neg (by simp [h])]
theorem cut_up (b j : Nat) (hb : IntKind.i64.wrap ((b : Int) - 1) = (j : Int)) (hj : j < l.length) : ∀ (k i : Nat), j + 1 - i < k → i ≤ 400000001 → zCut_L1 N (a : Int) (b : Int) l k (i : Int) = some ((Sort.scanUp (fun x => Sort.ltInt x l.toArray[a]!) l.toArray j i : Nat) : Int)
  | 0, _, h, _ => absurd h (Nat.not_lt_zero _)
  | k + 1, i, hk, hi => by
    unfold zCut_L1
    rw [Sort.scanUp, hb]
    by_cases h : i ≤ j
    · rw [if_pos (by omega), zix (by omega), Option.bind_some, zix ha, Option.bind_some, zLess_eq, Option.bind_some, zwp i (by omega)]
      cases hc : Sort.ltInt (l.getD i 0) (l.getD a 0) with
      | true =>
        rw [if_pos (by simp only [arr_get]; rw [hc]; simp [h])]
        exact cut_up b j hb hj k (i + 1) (by omega) (by omega)
      | false => rw [if_neg (by simp only [arr_get]; rw [hc]; simp)]
    · rw [if_neg (by omega), if_neg (by simp [h])]
theorem cut_up2 (j : Nat) (hj : j < l.length) : ∀ (k i : Nat), j + 1 - i < k → i ≤ 400000001 → zCut_L4 N (a : Int) l (j : Int) k (i : Int) = some ((Sort.scanUp (fun x => Sort.ltInt x l.toArray[a]!) l.toArray j i : Nat) : Int)
  | 0, _, h, _ => absurd h (Nat.not_lt_zero _)
  | k + 1, i, hk, hi => by
    unfold zCut_L4
    rw [Sort.scanUp]
    by_cases h : i ≤ j
    · rw [if_pos (by omega), zix (by omega), Option.bind_some, zix ha, Option.bind_some, zLess_eq, Option.bind_some, zwp i (by omega)]
      cases hc : Sort.ltInt (l.getD i 0) (l.getD a 0) with
      | true =>
        rw [if_pos (by simp only [arr_get]; rw [hc]; simp [h])]
        exact cut_up2 j hj k (i + 1) (by omega) (by omega)
      | false => rw [if_neg (by simp only [arr_get]; rw [hc]; simp)]
    · rw [if_neg (by omega), if_neg (by simp [h])]
theorem cut_dn (i : Nat) (h0 : 0 < i) : ∀ (j k : Nat), j < k → j < l.length → zCut_L2 N (a : Int) l (i : Int) k (j : Int) = some ((Sort.scanDown (fun x => !Sort.ltInt x l.toArray[a]!) l.toArray i j : Nat) : Int)
  | _, 0, h, _ => absurd h (Nat.not_lt_zero _)
  | 0, k + 1, hk, hj => by
    unfold zCut_L2
    rw [if_neg (by omega)]
    rfl
  | j + 1, k + 1, hk, hj => by
    unfold zCut_L2 Sort.scanDown
    by_cases h : i ≤ j + 1
    · rw [if_pos (by omega), zix hj, Option.bind_some, zix ha, Option.bind_some, zLess_eq, Option.bind_some, zwm (j + 1) (by omega) (by omega), show j + 1 - 1 = j by omega]
      cases hc : Sort.ltInt (l.getD (j + 1) 0) (l.getD a 0) with
      | true => rw [if_neg (by simp only [arr_get]; rw [hc]; simp)]
      | false =>
        rw [if_pos (by simp only [arr_get]; rw [hc]; simp [h])]
        exact cut_dn i h0 j k (by omega) (by omega)
    · rw [if_neg (by omega), if_neg (by simp [h])]
theorem cut_dn2 (i : Nat) (h0 : 0 < i) : ∀ (j k : Nat), j < k → j < l.length → zCut_L5 N (a : Int) l (i : Int) k (j : Int) = some ((Sort.scanDown (fun x => !Sort.ltInt x l.toArray[a]!) l.toArray i j : Nat) : Int)
  | _, 0, h, _ => absurd h (Nat.not_lt_zero _)
  | 0, k + 1, hk, hj => by
    unfold zCut_L5
    rw [if_neg (by omega)]
    rfl
  | j + 1, k + 1, hk, hj => by
    unfold zCut_L5 Sort.scanDown
    by_cases h : i ≤ j + 1
    · rw [if_pos (by omega), zix hj, Option.bind_some, zix ha, Option.bind_some, zLess_eq, Option.bind_some, zwm (j + 1) (by omega) (by omega), show j + 1 - 1 = j by omega]
      cases hc : Sort.ltInt (l.getD (j + 1) 0) (l.getD a 0) with
      | true => rw [if_neg (by simp only [arr_get]; rw [hc]; simp)]
      | false =>
        rw [if_pos (by simp only [arr_get]; rw [hc]; simp [h])]
        exact cut_dn2 i h0 j k (by omega) (by omega)
    · rw [if_neg (by omega), if_neg (by simp [h])]
end
theorem eq_L1 (N a : Nat) : ∀ (k i j : Nat) (l : List Int), j + 1 - i < k → l.length + 1 < N → a < l.length → l.length ≤ 400000000 → 0 < i → i ≤ l.length → j < l.length →
    ∃ m l', zEq_L1 N (a : Int) k l (i : Int) (j : Int) = some (l', ((m : Nat) : Int)) ∧ Sort.partEqLoop Sort.ltInt a i j l.toArray = (m, l'.toArray) ∧ l'.length = l.length ∧ i ≤ m ∧ ∀ B, i ≤ B → j + 1 ≤ B → m ≤ B
  | 0, _, _, _, h, _, _, _, _, _, _ => absurd h (Nat.not_lt_zero _)
  | k + 1, i, j, l, hk, hN, ha, hl, h0, hi, hj => by
    unfold zEq_L1
    rw [eq_L2 N a l ha hl j hj N i (by omega) (by omega), Option.bind_some, Sort.partEqLoop_eq]
    have g1 := Sort.scanUp_ge (fun x => !Sort.ltInt l.toArray[a]! x) l.toArray j i
    have g2 := fun B => up_le (fun x => !Sort.ltInt l.toArray[a]! x) l.toArray j (j + 1 - i) i B (Nat.le_refl _)
    generalize Sort.scanUp (fun x => !Sort.ltInt l.toArray[a]! x) l.toArray j i = i2 at g1 g2 ⊢
    rw [eq_L3 N a l ha hl i2 (by omega) j N (by omega) hj, Option.bind_some]
    have g3 := Sort.scanDown_le (fun x => Sort.ltInt l.toArray[a]! x) l.toArray i2 j
    generalize Sort.scanDown (fun x => Sort.ltInt l.toArray[a]! x) l.toArray i2 j = j2 at g3 ⊢
    by_cases h : i2 > j2
    · rw [if_pos (by omega), if_pos h]
      exact ⟨i2, l, rfl, rfl, rfl, g1, g2⟩
    · obtain ⟨m, l', e1, e2, e3, e4, e5⟩ := eq_L1 N a k (i2 + 1) (j2 - 1) (swL l i2 j2) (by omega) (by rw [swL_len]; exact hN) (by rw [swL_len]; exact ha) (by rw [swL_len]; exact hl) (by omega) (by rw [swL_len]; omega) (by rw [swL_len]; omega)
      rw [if_neg (by omega), if_neg h, sw_arr, zwp i2 (by omega), zwm j2 (by omega) (by omega)]
      exact ⟨m, l', (sw_run (i := i2) (j := j2) (by omega) (by omega) (fun l2 => zEq_L1 N (a : Int) k l2 ((i2 + 1 : Nat) : Int) ((j2 - 1 : Nat) : Int))).trans e1, e2, by rw [e3, swL_len], by omega, fun B h1 h2 => e5 B (by omega) (by omega)⟩
theorem parteq_eq (N a b v : Nat) (l : List Int) (hav : a ≤ v) (hvb : v < b) (hb : b ≤ l.length) (hN : l.length + 1 < N) (hl : l.length ≤ 400000000) : ∃ m l', zEq N l (a : Int) (b : Int) (v : Int) = some (((m : Nat) : Int), l') ∧ Sort.partitionEqual Sort.ltInt l.toArray a b v = (m, l'.toArray) ∧ l'.length = l.length ∧ a < m ∧ m ≤ b := by
  unfold zEq Sort.partitionEqual
  obtain ⟨m, l', e1, e2, e3, e4, e5⟩ := eq_L1 N a N (a + 1) (b - 1) (swL l a v) (by omega) (by rw [swL_len]; exact hN) (by rw [swL_len]; omega) (by rw [swL_len]; exact hl) (by omega) (by rw [swL_len]; omega) (by rw [swL_len]; omega)
  rw [zwp a (by omega), zwm b (by omega) (by omega), sw_arr]
  refine ⟨m, l', (sw_run (i := a) (j := v) (by omega) (by omega) _).trans ?_, e2, by rw [e3, swL_len], by omega, e5 b (by omega) (by omega)⟩
  exact zto e1 rfl
theorem cut_L3 (N a : Nat) : ∀ (k i j : Nat) (l : List Int), j + 1 - i < k → l.length + 1 < N → a < l.length → l.length ≤ 400000000 → 0 < i → i ≤ l.length → j < l.length →
    ∃ m l', zCut_L3 N (a : Int) k l (i : Int) (j : Int) = some (l', ((m : Nat) : Int)) ∧ Sort.partLoop Sort.ltInt a i j l.toArray = (m, l'.toArray) ∧ l'.length = l.length ∧ m ≤ j
  | 0, _, _, _, h, _, _, _, _, _, _ => absurd h (Nat.not_lt_zero _)
  | k + 1, i, j, l, hk, hN, ha, hl, h0, hi, hj => by
    unfold zCut_L3
    rw [cut_up2 N a l ha hl j hj N i (by omega) (by omega), Option.bind_some, Sort.partLoop_eq]
    have g1 := Sort.scanUp_ge (fun x => Sort.ltInt x l.toArray[a]!) l.toArray j i
    generalize Sort.scanUp (fun x => Sort.ltInt x l.toArray[a]!) l.toArray j i = i2 at g1 ⊢
    rw [cut_dn2 N a l ha hl i2 (by omega) j N (by omega) hj, Option.bind_some]
    have g3 := Sort.scanDown_le (fun x => !Sort.ltInt x l.toArray[a]!) l.toArray i2 j
    generalize Sort.scanDown (fun x => !Sort.ltInt x l.toArray[a]!) l.toArray i2 j = j2 at g3 ⊢
    by_cases h : i2 > j2
    · rw [if_pos (by omega), if_pos h]
      exact ⟨j2, l, rfl, rfl, rfl, g3⟩
    · obtain ⟨m, l', e1, e2, e3, e4⟩ := cut_L3 N a k (i2 + 1) (j2 - 1) (swL l i2 j2) (by omega) (by rw [swL_len]; exact hN) (by rw [swL_len]; exact ha) (by rw [swL_len]; exact hl) (by omega) (by rw [swL_len]; omega) (by rw [swL_len]; omega)
      rw [if_neg (by omega), if_neg h, sw_arr, zwp i2 (by omega), zwm j2 (by omega) (by omega)]
      exact ⟨m, l', (sw_run (i := i2) (j := j2) (by omega) (by omega) (fun l2 => zCut_L3 N (a : Int) k l2 ((i2 + 1 : Nat) : Int) ((j2 - 1 : Nat) : Int))).trans e1, e2, by rw [e3, swL_len], by omega⟩
theorem cut_eq (N a b v : Nat) (l : List Int) (hav : a ≤ v) (hvb : v < b) (hb : b ≤ l.length) (hN : l.length + 1 < N) (hl : l.length ≤ 400000000) : ∃ m t l', zCut N l (a : Int) (b : Int) (v : Int) = some (((m : Nat) : Int), t, l') ∧ Sort.partition Sort.ltInt l.toArray a b v = (m, t, l'.toArray) ∧ l'.length = l.length := by
  unfold zCut Sort.partition
  dsimp only
  rw [zwp a (by omega), zwm b (by omega) (by omega), sw_arr]
  have hsl := swL_len l a v
  generalize hd : swL l a v = d at hsl ⊢
  have u := cut_up N a d (by omega) (by omega) b (b - 1) (zwm b (by omega) (by omega)) (by omega) N (a + 1) (by omega) (by omega)
  have g1 := Sort.scanUp_ge (fun x => Sort.ltInt x d.toArray[a]!) d.toArray (b - 1) (a + 1)
  have g2 := up_le (fun x => Sort.ltInt x d.toArray[a]!) d.toArray (b - 1) _ (a + 1) b (Nat.le_refl _) (by omega) (by omega)
  generalize Sort.scanUp (fun x => Sort.ltInt x d.toArray[a]!) d.toArray (b - 1) (a + 1) = i2 at u g1 g2 ⊢
  have dn := cut_dn N a d (by omega) (by omega) i2 (by omega) (b - 1) N (by omega) (by omega)
  have g3 := Sort.scanDown_le (fun x => !Sort.ltInt x d.toArray[a]!) d.toArray i2 (b - 1)
  generalize Sort.scanDown (fun x => !Sort.ltInt x d.toArray[a]!) d.toArray i2 (b - 1) = j2 at dn g3 ⊢
  by_cases h : i2 > j2
  · rw [if_pos h, sw_arr]
    refine ⟨j2, true, swL d j2 a, ?_, rfl, by rw [swL_len, hsl]⟩
    refine (sw_run (i := a) (j := v) (by omega) (by omega) _).trans ?_
    rw [hd]
    refine zto u ?_
    refine zto dn ?_
    rw [if_pos (by omega)]
    exact sw_run (i := j2) (j := a) (by omega) (by omega) _
  · obtain ⟨m, l', e1, e2, e3, e4⟩ := cut_L3 N a N (i2 + 1) (j2 - 1) (swL d i2 j2) (by omega) (by rw [swL_len]; omega) (by rw [swL_len]; omega) (by rw [swL_len]; omega) (by omega) (by rw [swL_len]; omega) (by rw [swL_len]; omega)
    rw [swL_len] at e3
    rw [if_neg h, sw_arr, e2, sw_arr]
    refine ⟨m, false, swL l' m a, ?_, rfl, by rw [swL_len, e3, hsl]⟩
    refine (sw_run (i := a) (j := v) (by omega) (by omega) _).trans ?_
    rw [hd]
    refine zto u ?_
    refine zto dn ?_
    rw [if_neg (by omega), zwp i2 (by omega), zwm j2 (by omega) (by omega)]
    refine (sw_run (i := i2) (j := j2) (by omega) (by omega) _).trans ?_
    refine zto e1 ?_
    exact sw_run (l := l') (i := m) (j := a) (by omega) (by omega) _
end Go.Proofs.Ytgjlpiljacecpaa
