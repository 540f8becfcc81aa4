/-
  Features by lists: what is within, the words, rising.
-/
import Derived.Test.YtcleaepcjbfmhaaLq
namespace Go.Proofs.Ytcleaepcjbfmhaa
open Go Go.RowKit
set_option linter.unusedVariables false
set_option linter.unusedSectionVars false
set_option linter.unusedSimpArgs false

theorem all_eq (N : Nat) (b : List Int) (p n : Int) (hb : b.length ≤ 1000000000) : rAll N b p n = some (hasB b p n 1) := by
  unfold rAll rAll4 hasB
  by_cases h1 : p ≥ 0
  · rw [if_pos h1]
    by_cases h2 : n ≥ 0
    · rw [if_pos h2]
      simp only [Option.bind_some]
      by_cases h3 : p ≤ (b.length : Int)
      · rw [if_pos h3]
        simp only [Option.bind_some]
        rw [w64 (by omega) (by omega)]
        by_cases h4 : n ≤ (b.length : Int) - p
        · rw [decide_eq_true h4, decide_eq_true (by omega)]
        · rw [decide_eq_false h4, decide_eq_false (by omega)]
      · rw [if_neg h3]
        exact congrArg some (decide_eq_false (by omega)).symm
    · rw [if_neg h2]
      exact congrArg some (decide_eq_false (by omega)).symm
  · rw [if_neg h1]
    exact congrArg some (decide_eq_false (by omega)).symm
theorem all4_eq (N : Nat) (b : List Int) (p n : Int) (hb : b.length ≤ 1000000000) : rAll4 N b p n = some (hasB b p n 1) := by
  have := all_eq N b p n hb
  unfold rAll at this
  cases h : rAll4 N b p n with
  | none => rw [h] at this; cases this
  | some v => rw [h] at this; exact this
theorem has21 (b : List Int) (p : Int) : hasB b p 2 1 = hasB b p 1 2 := by
  unfold hasB
  by_cases h : 0 ≤ p ∧ (0 : Int) ≤ 2 ∧ p + 1 * 2 ≤ (b.length : Int)
  · rw [decide_eq_true h, decide_eq_true (by omega)]
  · rw [decide_eq_false h, decide_eq_false (by omega)]
theorem num2_eq (N : Nat) (b : List Int) (p : Int) (hU : U8 b) (hb : b.length ≤ 1000000000) (hN : 3 ≤ N) : rW N b p = some (rdv b p) := by
  obtain ⟨M, rfl⟩ : ∃ M, N = M + 3 := ⟨N - 3, by omega⟩
  unfold rW rNum4
  rw [all4_eq _ _ _ _ hb, has21]
  unfold rdv
  cases h : hasB b p 1 2 with
  | false => rfl
  | true =>
    have h' : 0 ≤ p ∧ (0 : Int) ≤ 1 ∧ p + 2 * 1 ≤ (b.length : Int) := of_decide_eq_true h
    have u1 := hU.at p.toNat
    have u2 := hU.at (p.toNat + 1)
    have hr : rNum4_L1 (M + 3) b p 2 (M + 3) 0 0 = some (wdv b p) := by
      unfold rNum4_L1
      rw [if_pos (by decide), w64 (x := p + 0) (by omega) (by omega), ix_eq (by omega) (by omega), Option.bind_some]
      unfold rNum4_L1
      rw [if_pos (by decide), show IntKind.i64.wrap ((0 : Int) + 1) = 1 from rfl, w64 (x := p + 1) (by omega) (by omega), ix_eq (by omega) (by omega), Option.bind_some]
      unfold rNum4_L1
      rw [if_neg (by decide)]
      rw [show (p + 0).toNat = p.toNat by omega, show (p + 1).toNat = p.toNat + 1 by omega]
      unfold wdv
      generalize b.getD p.toNat 0 = x at u1 ⊢
      generalize b.getD (p.toNat + 1) 0 = y at u2 ⊢
      congr 1
      simp only [IntKind.wrap_u32]
      omega
    simp only [Option.bind_some]
    rw [hr]
    simp only [Option.bind_some, if_true]
    have := wdv_in hU p
    rw [w64 (by omega) (by omega)]
end Go.Proofs.Ytcleaepcjbfmhaa
