/-
  EmbedRuns: the chapter's examples.
-/
import Derived.Test.YtjndolnjhbgflaaHO
import Derived.Test.YtjndolnjhbgflaaFRuns
namespace Go.Proofs.Ytjndolnjhbgflaa
open Go Go.RowKit
set_option linter.unusedVariables false
set_option linter.unusedSectionVars false
set_option linter.unusedSimpArgs false

theorem bind_to {α β : Type} {o : Option α} {a : α} {f : α → Option β} {r : Option β} (h : o = some a) (h2 : f a = r) : o.bind f = r := by rw [h]; exact h2

theorem run_L1 (N : Nat) : ∀ (k i : Nat) (l : List Int), 40 - i < k → i ≤ 40 → l.length ≤ 2 * i → ∃ l', fRuns_L1 N k l (i : Int) = some l' ∧ l'.length ≤ 80
  | 0, _, _, h, _, _ => absurd h (Nat.not_lt_zero _)
  | k + 1, i, l, hk, hi, hl => by
    unfold fRuns_L1
    by_cases h : i < 40
    · rw [if_pos (by omega), apxe _ _ (by show l.length + 2 ≤ _; omega), Option.bind_some, wne i (by omega)]
      exact run_L1 N k (i + 1) _ (by omega) (by omega) (by rw [List.length_append]; show l.length + 2 ≤ _; omega)
    · rw [if_neg (by omega)]
      exact ⟨l, rfl, by omega⟩
theorem run_L2 (N : Nat) : ∀ (k i : Nat) (l : List Int), 42 - i < k → i ≤ 42 → l.length ≤ 80 + 2 * i → ∃ l', fRuns_L2 N k l (i : Int) = some l' ∧ l'.length ≤ 164
  | 0, _, _, h, _, _ => absurd h (Nat.not_lt_zero _)
  | k + 1, i, l, hk, hi, hl => by
    unfold fRuns_L2
    by_cases h : i < 42
    · rw [if_pos (by omega), apxe _ _ (by show l.length + 2 ≤ _; omega), Option.bind_some, wne i (by omega)]
      exact run_L2 N k (i + 1) _ (by omega) (by omega) (by rw [List.length_append]; show l.length + 2 ≤ _; omega)
    · rw [if_neg (by omega)]
      exact ⟨l, rfl, by omega⟩
theorem mkx_e (n : Nat) (h : n ≤ 1000000000) : mkx (n : Int) = some (List.replicate n 0) := by unfold mkx; rw [if_pos ⟨by omega, by omega⟩, Int.toNat_natCast]
theorem rep0 (n : Nat) : ∀ x ∈ List.replicate n (0 : Int), 0 ≤ x := fun x hx => by rw [(List.mem_replicate.1 hx).2]; exact Int.le_refl _

theorem fRuns_at (N : Nat) (hN : 70000 < N) : fRuns N = some true := by
  unfold fRuns
  refine bind_to (pSeqs_eq (N := N) [1, 16, 2, 19, 1] [0, 0, 1, 1, 0] 0 (by decide) (by show 5 + 3 < N; omega) (by decide) (by decide)) ?_
  rw [show seqsR [1, 16, 2, 19, 1] [0, 0, 1, 1, 0] 0 = ([([0], 0, 1, 2), ([2], 1, 2, 2), ([4], 0, 2, 1)], 0) by decide +kernel]
  refine bind_to (pSeqs_eq (N := N) [21, 2] [0, 1] 0 (by decide) (by show 2 + 3 < N; omega) (by decide) (by decide)) ?_
  rw [show seqsR [21, 2] [0, 1] 0 = ([([0], 0, 1, 1), ([1], 1, 2, 2)], 0) by decide +kernel]
  refine bind_to (a := true) (by decide) ?_
  obtain ⟨l1, e1, h1⟩ := run_L1 N N 0 [] (by omega) (by omega) (by simp)
  have e1' : fRuns_L1 N N [] 0 = some l1 := e1
  refine bind_to e1' ?_
  obtain ⟨l2, e2, h2⟩ := run_L2 N N 0 l1 (by omega) (by omega) (by omega)
  have e2' : fRuns_L2 N N l1 0 = some l2 := e2
  refine bind_to e2' ?_
  refine bind_to (apxe l2 [11, 21, 20, 23, 22, 3] (by show l2.length + 6 ≤ _; omega)) ?_
  have hlen : (l2 ++ [11, 21, 20, 23, 22, 3]).length ≤ 200 := by rw [List.length_append]; show l2.length + 6 ≤ _; omega
  generalize l2 ++ [11, 21, 20, 23, 22, 3] = l at hlen ⊢
  refine bind_to (a := true) ?_ ?_
  · refine bind_to (a := true) ?_ ?_
    · rw [fOnce_at l 0 (by omega) N (by omega), Option.bind_some]
      simp only
      rw [fOnce_at l 1 (by omega) N (by omega)]
      rfl
    refine bind_to (a := true) ?_ ?_
    · simp only
      rw [fOnce_at l 2 (by omega) N (by omega)]
      rfl
    refine bind_to (a := true) ?_ ?_
    · simp only
      rw [mkx_e _ (by omega), Option.bind_some, fSequences_at l _ 0 (rep0 _) (by omega) N (by omega)]
      rfl
    simp only
    refine bind_to (mkx_e 3 (by omega)) ?_
    rw [fSequences_at l _ 0 (rep0 _) (by omega) N (by omega), Option.bind_some]
    simp only
    rw [fSequences_at [] [] 9 (by simp) (by omega) N (by omega)]
    rfl
  refine bind_to (mkx_e 65537 (by omega)) ?_
  refine bind_to (mkx_e 65537 (by omega)) ?_
  have hl3 : ∀ n, (List.replicate n (0 : Int)).length = n := fun n => List.length_replicate
  refine bind_to (pSeqs_eq (N := N) (List.replicate 65537 0) (List.replicate 65537 0) 0 (by rw [hl3]; omega) (by rw [hl3]; omega) (rep0 _) (by decide)) ?_
  rw [show seqsR (List.replicate 65537 0) (List.replicate 65537 0) 0 = ([], 3) by unfold seqsR; rw [if_pos (by rw [hl3]; omega)]]
  refine bind_to (mkx_e 1 (by omega)) ?_
  refine bind_to (pSeqs_eq (N := N) (List.replicate 1 0) [] 0 (by rw [hl3]; omega) (by rw [hl3]; omega) (by simp) (by decide)) ?_
  rw [show seqsR (List.replicate 1 0) [] 0 = ([], 2) by unfold seqsR; rw [if_neg (by rw [hl3]; omega), if_pos (by rw [hl3]; simp)]]
  refine bind_to (mkx_e 65536 (by omega)) ?_
  refine bind_to (mkx_e 65536 (by omega)) ?_
  refine bind_to (pSeqs_eq (N := N) (List.replicate 65536 0) (List.replicate 65536 0) 0 (by rw [hl3]; omega) (by rw [hl3]; omega) (rep0 _) (by decide)) ?_
  rw [show seqsR (List.replicate 65536 0) (List.replicate 65536 0) 0 = (seqsS (List.replicate 65536 0) (List.replicate 65536 0) 0, 0) by unfold seqsR; rw [if_neg (by rw [hl3]; omega), if_neg (fun h => h rfl)]]
  generalize seqsS (List.replicate 65536 0) (List.replicate 65536 0) 0 = S
  simp only
  refine bind_to (a := true) (by simp) ?_
  refine bind_to (a := true) (by simp) ?_
  refine bind_to (a := true) (by simp) ?_
  simp only
  rw [if_pos trivial, kIso_eq N (by omega)]
  rfl
theorem fRuns_true : ∃ N, fRuns N = some true := ⟨100000, fRuns_at 100000 (by omega)⟩
end Go.Proofs.Ytjndolnjhbgflaa
