/-
  JoiningKnown, by lists.
-/
import Derived.Test.YtbdhgjaoojimmaaDoorJb
import Derived.Test.YtbdhgjaoojimmaaDoorFKnown
namespace Go.Proofs.YtbdhgjaoojimmaaDoor
open Go Go.RowKit _root_.Jn
set_option linter.unusedVariables false
set_option linter.unusedSimpArgs false
section
variable {N : Nat}
theorem kn_L4 (hN : 3000 ≤ N) (a b c d : Int) : ∀ (f n : Nat), 5 - n < f → n ≤ 5 → fKnown_L4 N a b c d f (n : Int) = some (Ctl.go ())
  | 0, n, h, _ => by omega
  | f + 1, n, hf, hn => by
    unfold fKnown_L4
    by_cases h : n ≤ 4
    · have q := cut_nat (l := [a, b, c, d]) (i := 0) (j := n) (by omega) (by simp; omega)
      rw [show ((0 : Nat) : Int) = 0 from rfl, List.drop_zero] at q
      rw [if_pos (by omega), q]
      simp only [Option.bind_some, fForms_true hN, fPasses_true hN, fAgree_true hN]
      rw [w64s (by omega) (by omega), show (n : Int) + 1 = ((n + 1 : Nat) : Int) by omega]
      exact kn_L4 hN a b c d f (n + 1) (by omega) (by omega)
    · rw [if_neg (by omega)]
theorem kn_L3 (hN : 3000 ≤ N) {i k : Nat} (hi : i < 10) (hk : k < 10) : ∀ (f j : Nat), 10 - j < f → j ≤ 10 → fKnown_L3 N (i : Int) (k : Int) f (j : Int) = some (Ctl.go ())
  | 0, j, h, _ => by omega
  | f + 1, j, hf, hj => by
    have ih := fun h2 => kn_L3 hN hi hk f (j + 1) (by omega) h2
    unfold fKnown_L3
    have hl : ([1576, 1575, 1614, 1600, 97, 1604, 1583, 8205, 32, 1587] : List Int).length = 10 := rfl
    have hl2 : ([1576, 1575, 1614, 1600, 97, 1604, 1583, 8205, 32, 1587] : List Nat).length = 10 := rfl
    generalize ([1576, 1575, 1614, 1600, 97, 1604, 1583, 8205, 32, 1587] : List Int) = R at hl ⊢
    rw [hl2]
    by_cases h : j < 10
    · have e : IntKind.i64.wrap (IntKind.i64.wrap ((i : Int) + (k : Int)) + (j : Int)) = ((i + k + j : Nat) : Int) := by
        rw [w64s (x := (i : Int) + (k : Int)) (by omega) (by omega), w64s (by omega) (by omega)]; omega
      have e2 : Int.tmod ((i + k + j : Nat) : Int) ((10 : Nat) : Int) = (((i + k + j) % 10 : Nat) : Int) := by
        rw [Int.tmod_eq_emod_of_nonneg (by omega)]; omega
      have h4 := kn_L4 (N := N) hN (R.getD i 0) (R.getD k 0) (R.getD j 0) (R.getD ((i + k + j) % 10) 0) N 0 (by omega) (by omega)
      rw [show ((0 : Nat) : Int) = 0 from rfl] at h4
      rw [if_pos (by omega), ix_nat (getD_some (l := R) (i := i) (by omega)), ix_nat (getD_some (l := R) (i := k) (by omega)), ix_nat (getD_some (l := R) (i := j) (by omega))]
      simp only [Option.bind_some]
      rw [if_neg (by omega), e, e2, ix_nat (getD_some (l := R) (i := (i + k + j) % 10) (by omega))]
      simp only [Option.bind_some, h4]
      rw [w64s (by omega) (by omega), show (j : Int) + 1 = ((j + 1 : Nat) : Int) by omega]
      exact ih (by omega)
    · rw [if_neg (by omega)]
theorem kn_L2 (hN : 3000 ≤ N) {i : Nat} (hi : i < 10) : ∀ (f k : Nat), 10 - k < f → k ≤ 10 → fKnown_L2 N (i : Int) f (k : Int) = some (Ctl.go ())
  | 0, k, h, _ => by omega
  | f + 1, k, hf, hk => by
    have ih := fun h2 => kn_L2 hN hi f (k + 1) (by omega) h2
    unfold fKnown_L2
    have hl : ([1576, 1575, 1614, 1600, 97, 1604, 1583, 8205, 32, 1587] : List Int).length = 10 := rfl
    have hl2 : ([1576, 1575, 1614, 1600, 97, 1604, 1583, 8205, 32, 1587] : List Nat).length = 10 := rfl
    generalize ([1576, 1575, 1614, 1600, 97, 1604, 1583, 8205, 32, 1587] : List Int) = R at hl ⊢
    rw [hl2]
    by_cases h : k < 10
    · have h3 := kn_L3 (N := N) hN hi h N 0 (by omega) (by omega)
      rw [show ((0 : Nat) : Int) = 0 from rfl] at h3
      rw [if_pos (by omega), h3, ix_nat (getD_some (by omega)), ix_nat (getD_some (by omega))]
      simp only [Option.bind_some, fPairs_true (show 100 ≤ N by omega)]
      rw [w64s (by omega) (by omega), show (k : Int) + 1 = ((k + 1 : Nat) : Int) by omega]
      exact ih (by omega)
    · rw [if_neg (by omega)]
theorem kn_L1 (hN : 3000 ≤ N) : ∀ (f i : Nat), 10 - i < f → i ≤ 10 → fKnown_L1 N f (i : Int) = some (Ctl.go ())
  | 0, i, h, _ => by omega
  | f + 1, i, hf, hi => by
    have ih := fun h2 => kn_L1 hN f (i + 1) (by omega) h2
    unfold fKnown_L1
    rw [show ((([1576, 1575, 1614, 1600, 97, 1604, 1583, 8205, 32, 1587] : List Nat).length : Nat) : Int) = 10 from rfl]
    by_cases h : i < 10
    · have h2 := kn_L2 (N := N) hN h N 0 (by omega) (by omega)
      rw [show ((0 : Nat) : Int) = 0 from rfl] at h2
      rw [if_pos (by omega), h2]
      simp only [Option.bind_some]
      rw [w64s (by omega) (by omega), show (i : Int) + 1 = ((i + 1 : Nat) : Int) by omega]
      exact ih (by omega)
    · rw [if_neg (by omega)]
theorem fKnown_true (hN : 3000 ≤ N) : fKnown N = some true := by
  have h1 := kn_L1 (N := N) hN N 0 (by omega) (by omega)
  rw [show ((0 : Nat) : Int) = 0 from rfl] at h1
  unfold fKnown
  rw [h1, fForms_true hN, fPairs_true (by omega), kWorks_true (by omega)]
  rfl
end
theorem fForms_true' (x : List Int) : ∃ N, fForms N x = some true := ⟨3000, fForms_true (Nat.le_refl _)⟩
theorem fPairs_true' (a b : Int) : ∃ N, fPairs N a b = some true := ⟨3000, fPairs_true (by decide) a b⟩
theorem fPasses_true' (x : List Int) (n : Int) : ∃ N, fPasses N x n = some true := ⟨3000, fPasses_true (Nat.le_refl _) n⟩
theorem fAgree_true' (x : List Int) : ∃ N, fAgree N x = some true := ⟨3000, fAgree_true (Nat.le_refl _)⟩
theorem fKnown_true' : ∃ N, fKnown N = some true := ⟨3000, fKnown_true (Nat.le_refl _)⟩
end Go.Proofs.YtbdhgjaoojimmaaDoor
