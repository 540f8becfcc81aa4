/-
  What landed is the document's: the pairs of brackets, by lists.
-/
import Derived.Test.YtdfgecndbfmgnaaDoorB7
import Derived.Test.YtdfgecndbfmgnaaDoorPB1
namespace Go.Proofs.YtdfgecndbfmgnaaDoor
open Go Go.RowKit
set_option linter.unusedVariables false
set_option linter.unusedSimpArgs false

theorem br_eq (r : Int) : ∀ t : List (Int × Int), bracketS t r = brF r t
  | [] => rfl
  | (a, b) :: t => by
    rw [brF, bracketS, br_eq r t]
    by_cases h1 : r = a
    · by_cases h2 : b = 9002 <;> simp [h1, h2]
    · by_cases h3 : r = b
      · by_cases h2 : b = 9002 <;> simp [h1, h3, h2]
      · simp [h1, h3]
theorem ucBr_eq (N : Nat) (r : Int) : ucBr N r = some (brS r) := by
  unfold ucBr brS
  rw [br_eq]; rfl
theorem popK_eq (c : Int) : ∀ st, popK c st = popB c st
  | [] => rfl
  | x :: t => by rw [popK, popB, popK_eq c t]

theorem paired_loop (N : Nat) (p0 p1 : List Int) (hp : p0.length ≤ 400000000) (h01 : p0.length ≤ p1.length) : ∀ (k i : Nat) (l st : List (Int × Int)), p0.length - i < k → i ≤ p0.length → l.length ≤ i → st.length ≤ 63 →
    ((pPaired_L1 N p0 p1 k l (i : Int) st).bind fun | Ctl.go r => some r | Ctl.ret r => some r) = some (l ++ runB (i : Int) ((p0.zip p1).drop i) st)
  | 0, _, _, _, h, _, _, _ => absurd h (Nat.not_lt_zero _)
  | k + 1, i, l, st, hk, hi, hl, hst => by
    unfold pPaired_L1
    by_cases h0 : i < p0.length
    · have h1 : i < p1.length := by omega
      have ih := fun l st (hl : l.length ≤ i + 1) hst => paired_loop N p0 p1 hp h01 k (i + 1) l st (by omega) (by omega) hl hst
      rw [if_pos (by omega), ixe h0, Option.bind_some, ixe h1, Option.bind_some, wne i (by omega), zip_drop h0 h1, runB]
      simp only
      by_cases hc : p1.getD i 0 = 14
      · rw [if_neg (by omega), ucBr_eq]
        simp only [Option.bind_some]
        rcases hB : brS (p0.getD i 0) with ⟨b1, b2, b3⟩
        simp only
        cases b3 with
        | false => simp only [Bool.false_eq_true, false_and, if_false]; exact ih l st (by omega) hst
        | true =>
          rw [if_pos ⟨rfl, hc⟩]
          cases b2 with
          | true =>
            simp only [if_true]
            unfold kPut
            by_cases h63 : st.length = 63
            · rw [if_pos (by omega), if_pos h63]
              simp only [Option.bind_some]
              rw [List.append_nil]
            · rw [if_neg (by omega), if_neg h63]
              simp only [Option.bind_some]
              exact ih l ((b1, (i : Int)) :: st) (by omega) (by rw [List.length_cons]; omega)
          | false =>
            simp only [Bool.false_eq_true, if_false]
            unfold kTake
            rw [popK_eq]
            cases hq : popB b1 st with
            | none => simp only [Option.bind_some]; exact ih l st (by omega) hst
            | some q =>
              obtain ⟨a, st'⟩ := q
              simp only [Option.bind_some]
              rw [apg_to _ _ (by simp; omega), Option.bind_some]
              have hlen : st'.length ≤ 63 := by have := (popB_in b1 st a st' hq).2.2; omega
              have := ih (l ++ [(a, (i : Int))]) st' (by simp; omega) hlen
              rw [this, List.append_assoc]; rfl
      · rw [if_pos (by omega), if_neg (fun h => hc h.2)]
        exact ih l st (by omega) hst
    · rw [if_neg (by omega), List.drop_eq_nil_of_le (by rw [List.length_zip]; omega)]
      simp [runB]
theorem paired_eq (N : Nat) (p0 p1 : List Int) (hp : p0.length ≤ 400000000) (hN : p0.length < N) (h01 : p0.length ≤ p1.length) : pPaired N p0 p1 = some (runB 0 (p0.zip p1) []) := by
  unfold pPaired
  have h := paired_loop N p0 p1 hp h01 N 0 [] [] (by omega) (Nat.zero_le _) (Nat.le_refl _) (by simp)
  rw [List.drop_zero] at h
  exact h
end Go.Proofs.YtdfgecndbfmgnaaDoor
