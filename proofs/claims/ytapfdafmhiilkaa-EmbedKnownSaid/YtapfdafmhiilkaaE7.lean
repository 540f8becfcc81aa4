/-
  EmbedBounds is true, by lists.
-/
import Derived.Test.YtapfdafmhiilkaaE6
import Derived.Test.YtapfdafmhiilkaaFBounds
namespace Go.Proofs.Ytapfdafmhiilkaa
open Go Go.RowKit
set_option linter.unusedVariables false
set_option linter.unusedSectionVars false
set_option linter.unusedSimpArgs false

theorem ix_fst {o : List (Int × Int)} {i : Nat} {v k : Int} {r : List (Int × Int)} (h : o.drop i = (v, k) :: r) : ix (o.map Prod.fst) (i : Int) = some v ∧ ix (o.map Prod.snd) (i : Int) = some k ∧ o.drop (i + 1) = r := by
  have hi : i < o.length := by
    apply Decidable.byContradiction
    intro hn
    rw [List.drop_eq_nil_of_le (by omega)] at h
    cases h
  rw [List.drop_eq_getElem_cons hi] at h
  injection h with h1 h2
  refine ⟨?_, ?_, h2⟩
  · rw [ixe (by simpa using hi)]; simp [List.getD_eq_getElem?_getD, hi, h1]
  · rw [ixe (by simpa using hi)]; simp [List.getD_eq_getElem?_getD, hi, h1]

theorem bounds_loop (N : Nat) (l : List Int) (o : List (Int × Int)) (n : Int) (hl : l.length ≤ 900000000) : ∀ (k i : Nat) (p : Int), l.length - i < k → i ≤ l.length → okRow n p (l.drop i) (o.drop i) →
    fBounds_L1 N l (o.map Prod.fst) (o.map Prod.snd) n k p (i : Int) = some (Ctl.go ())
  | 0, _, _, h, _, _ => absurd h (Nat.not_lt_zero _)
  | k + 1, i, p, hk, hi, ho => by
    unfold fBounds_L1
    by_cases hn : i < l.length
    · rw [if_pos (by omega)]
      rw [drop_e hn] at ho
      obtain ⟨q, r, hqr⟩ : ∃ q r, o.drop i = q :: r := by
        cases hq : o.drop i with
        | nil => rw [hq] at ho; exact absurd ho (by simp [okRow])
        | cons q r => exact ⟨q, r, rfl⟩
      obtain ⟨v, kk⟩ := q
      rw [hqr] at ho
      simp only [okRow] at ho
      obtain ⟨g1, g2, g3, g4, g5, g6⟩ := ho
      obtain ⟨x1, x2, x3⟩ := ix_fst hqr
      rw [← x3] at g6
      have ih := bounds_loop N l o n hl k (i + 1) v (by omega) (by omega) g6
      rw [show ((i + 1 : Nat) : Int) = (i : Int) + 1 by simp] at ih
      have xc := ixe hn
      generalize l.getD i 0 = c at xc g3 g4 g5
      simp only [x1, x2, xc, Option.bind_some, rRem_eq, wne i (by omega)]
      rw [if_neg (show ¬ v > 125 by omega), if_neg (show ¬ v < n by omega)]
      cases hr : isRem c with
      | true =>
        obtain ⟨e1, e2⟩ := g4 hr
        subst e1; subst e2
        by_cases h11 : c = 11
        · have := g3 h11
          simp [h11, this] at hr ⊢
          exact absurd hr (by decide)
        · simp [h11, ih]
      | false =>
        have hk3 := g5 hr
        by_cases h11 : c = 11
        · have hv := g3 h11
          subst hv
          by_cases hkc : kk = c
          · simp [h11, hkc, ih]
          · by_cases hk1 : kk = 1
            · have : ¬ (1 : Int) = 11 := by decide
              simp [h11, hk1, ih]
            · have hk2 : kk = 2 := by omega
              simp [h11, hk2, ih]
        · by_cases hkc : kk = c
          · simp [h11, hkc, ih]
          · by_cases hk1 : kk = 1
            · simp [h11, hk1, ih]
              rw [if_neg (fun e : 1 = c => hkc (by rw [hk1, e]))]
              rfl
            · have hk2 : kk = 2 := by omega
              simp [h11, hk2, ih]
              rw [if_neg (fun e : 2 = c => hkc (by rw [hk2, e]))]
              rfl
    · rw [if_neg (by omega)]

theorem fBounds_N (N : Nat) (hN : 10000 ≤ N) (l : List Int) (b : Int) (hb : 0 ≤ b ∧ b ≤ 255) : fBounds N l b = some true := by
  unfold fBounds
  by_cases c1 : 2000 < l.length
  · rw [if_pos (by omega), kWorks_eq _ (by omega)]; rfl
  rw [if_neg (by omega), pLevels_eq N l b hb (by omega) (by omega)]
  simp only [Option.bind_some]
  by_cases he : (levelsS l b).2.2.2 = 0
  · obtain ⟨g1, g2, g3, g4⟩ := levels_ok he
    rw [if_neg (fun e => e he), g4]
    simp only
    have hn := baseS_in l b ⟨hb.1, g3⟩
    generalize baseS l b = n at hn
    rw [if_neg (by simp [runM_len]), if_neg (by simp [runM_len]), if_neg (by omega)]
    simp only [Option.bind_some]
    have hok := run_ok hn l (ms0 n) n (good0 hn) (Int.le_refl _) (by omega)
    have h := bounds_loop N l (runM n (ms0 n) n l) n (by omega) N 0 n (by omega) (Nat.zero_le _) (by rw [List.drop_zero, List.drop_zero]; exact hok)
    rw [show ((0 : Nat) : Int) = 0 from rfl] at h
    rw [h]
    simp only [Option.bind_some]
    rw [kWorks_eq _ (by omega)]
    rfl
  · rw [if_pos he]
    have hz : levelsS l b = ([], [], 0, (levelsS l b).2.2.2) := by
      unfold levelsS at he ⊢
      split
      · rfl
      rename_i q1
      rw [if_neg q1] at he
      split
      · rfl
      rename_i q2
      rw [if_neg q2] at he
      split
      · rfl
      rename_i q3
      rw [if_neg q3] at he
      exact absurd rfl he
    rw [hz]
    simp only [List.length_nil]
    rw [if_pos (by rfl), if_pos (by rfl), kWorks_eq _ (by omega)]
    simp

theorem fBounds_true (l : List Int) (b : Int) (hb : 0 ≤ b ∧ b ≤ 255) : ∃ N, fBounds N l b = some true := ⟨10000, fBounds_N 10000 (Nat.le_refl _) l b hb⟩
end Go.Proofs.Ytapfdafmhiilkaa
