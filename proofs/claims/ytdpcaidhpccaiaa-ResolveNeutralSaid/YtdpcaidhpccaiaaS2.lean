/-
  Weak, Neutral, Levels of the document, by lists.
-/
import Derived.Test.YtdpcaidhpccaiaaS1
namespace Go.Proofs.Ytdpcaidhpccaiaa
open Go Go.RowKit
set_option linter.unusedVariables false
set_option linter.unusedSectionVars false
set_option linter.unusedSimpArgs false

section
variable {N : Nat}

theorem getD_drop (l : List Int) (i j : Nat) : (l.drop i).getD j 0 = l.getD (i + j) 0 := by
  rw [List.getD_eq_getElem?_getD, List.getD_eq_getElem?_getD, List.getElem?_drop]

theorem rW4_loop (p0 : List Int) (hl : p0.length ≤ 400000000) : ∀ (k i : Nat) (a : List Int), p0.length - i < k → 1 ≤ i → i ≤ p0.length → a.length = p0.length →
    rW4_L1 N p0 k a (i : Int) = some (a.take i ++ w4S (a.getD (i - 1) 0) (a.drop i))
  | 0, _, _, h, _, _, _ => absurd h (Nat.not_lt_zero _)
  | k + 1, i, a, hk, h1, hi, ha => by
    unfold rW4_L1
    rw [wne i (by omega)]
    by_cases h : i + 1 < p0.length
    · have hia : i < a.length := by omega
      have hib : i + 1 < a.length := by omega
      have ih := fun a => rW4_loop p0 hl k (i + 1) a (by omega) (by omega) (by omega)
      rw [if_pos (by omega), wme i (by omega) (by omega), ixe (by omega), Option.bind_some, ixe hib, Option.bind_some]
      have hd : w4S (a.getD (i - 1) 0) (a.drop i) = betw (a.getD (i - 1) 0) (a.getD i 0) (a.getD (i + 1) 0) :: w4S (betw (a.getD (i - 1) 0) (a.getD i 0) (a.getD (i + 1) 0)) (a.drop (i + 1)) := by
        rw [drop_e hia, drop_e hib, w4S]
      rw [hd]
      have stay : betw (a.getD (i - 1) 0) (a.getD i 0) (a.getD (i + 1) 0) = a.getD i 0 → rW4_L1 N p0 k a ((i + 1 : Nat) : Int) = some (a.take i ++ (betw (a.getD (i - 1) 0) (a.getD i 0) (a.getD (i + 1) 0) :: w4S (betw (a.getD (i - 1) 0) (a.getD i 0) (a.getD (i + 1) 0)) (a.drop (i + 1)))) := by
        intro e
        rw [e, here a i hia]
        exact ih a ha
      have turn : betw (a.getD (i - 1) 0) (a.getD i 0) (a.getD (i + 1) 0) = a.getD (i - 1) 0 → rW4_L1 N p0 k (a.set i (a.getD (i - 1) 0)) ((i + 1 : Nat) : Int) = some (a.take i ++ (betw (a.getD (i - 1) 0) (a.getD i 0) (a.getD (i + 1) 0) :: w4S (betw (a.getD (i - 1) 0) (a.getD i 0) (a.getD (i + 1) 0)) (a.drop (i + 1)))) := by
        intro e
        rw [e, there a i _ hia, ← drop_set_ge a i (a.getD (i - 1) 0)]
        have := ih (a.set i (a.getD (i - 1) 0)) (by simp [ha])
        rw [this, Nat.add_sub_cancel, show (a.set i (a.getD (i - 1) 0)).getD i 0 = a.getD (i - 1) 0 by rw [List.getD_eq_getElem?_getD, List.getElem?_set_self hia]; rfl]
      generalize hp : a.getD (i - 1) 0 = p at stay turn ⊢
      generalize hc : a.getD i 0 = c at stay turn ⊢
      generalize hq : a.getD (i + 1) 0 = q at stay turn ⊢
      by_cases e1 : p = q
      · subst e1
        rw [if_pos rfl]
        by_cases e2 : p = 4
        · subst e2
          rw [if_pos rfl, ixe hia, Option.bind_some, hc]
          by_cases e3 : c = 5
          · subst e3
            rw [if_pos rfl]
            simp only [Option.bind_some]
            rw [setxe _ hia, Option.bind_some]
            exact turn (by unfold betw; exact if_pos ⟨rfl, .inl ⟨rfl, .inl rfl⟩⟩)
          · rw [if_neg e3, Option.bind_some, ]
            by_cases e4 : c = 8
            · subst e4
              rw [if_pos rfl]
              simp only [Option.bind_some]
              rw [setxe _ hia, Option.bind_some]
              exact turn (by unfold betw; exact if_pos ⟨rfl, .inl ⟨rfl, .inr rfl⟩⟩)
            · rw [if_neg e4]
              simp only [Option.bind_some]
              rw [if_neg (by decide)]
              exact stay (by unfold betw; exact if_neg (by omega))
        · rw [if_neg e2]
          simp only [Option.bind_some]
          by_cases e5 : p = 7
          · subst e5
            rw [if_pos rfl, ixe hia, Option.bind_some, hc]
            by_cases e4 : c = 8
            · subst e4
              rw [if_pos rfl, Option.bind_some, setxe _ hia, Option.bind_some]
              exact turn (by unfold betw; exact if_pos ⟨rfl, .inr ⟨rfl, rfl⟩⟩)
            · rw [if_neg e4]
              exact stay (by unfold betw; exact if_neg (by omega))
          · rw [if_neg e5]
            exact stay (by unfold betw; exact if_neg (by omega))
      · rw [if_neg e1]
        exact stay (by unfold betw; exact if_neg (by omega))
    · rw [if_neg (by omega)]
      by_cases h2 : i < p0.length
      · have hia : i < a.length := by omega
        rw [drop_e hia, List.drop_eq_nil_of_le (by omega), w4S, here a i hia, List.append_nil, List.take_of_length_le (by omega)]
      · rw [List.drop_eq_nil_of_le (by omega), List.take_of_length_le (by omega), w4S, List.append_nil]

theorem rW4_eq (l : List Int) (hl : l.length ≤ 400000000) (hN : l.length < N) : rW4 N l = some (w4T l) := by
  unfold rW4
  by_cases h : 1 ≤ l.length
  · rw [show (1 : Int) = ((1 : Nat) : Int) from rfl, rW4_loop l hl N 1 l (by omega) (Nat.le_refl _) h rfl]
    cases l with
    | nil => simp at h
    | cons c r => rfl
  · obtain rfl : l = [] := List.length_eq_zero_iff.1 (by omega)
    obtain ⟨M, rfl⟩ : ∃ M, N = M + 1 := ⟨N - 1, by simp at hN; omega⟩
    unfold rW4_L1
    rfl

/-! ### W5 -/
theorem rW5_run (p0 a : List Int) (hl : p0.length ≤ 400000000) (ha : a.length = p0.length) : ∀ (k i : Nat), p0.length - i < k → i ≤ p0.length →
    ∃ e : Nat, rW5_L2 N p0 a k (i : Int) = some (e : Int) ∧ i ≤ e ∧ e ≤ p0.length ∧ (∀ j, i ≤ j → j < e → a.getD j 0 = 6) ∧ (e < p0.length → a.getD e 0 ≠ 6) ∧ nextEN (a.drop i) = decide (e < p0.length ∧ a.getD e 0 = 4)
  | 0, _, h, _ => absurd h (Nat.not_lt_zero _)
  | k + 1, i, hk, hi => by
    unfold rW5_L2
    by_cases h : i < p0.length
    · have hia : i < a.length := by omega
      rw [if_pos (by omega), ixe hia, Option.bind_some, drop_e hia, nextEN]
      by_cases h6 : a.getD i 0 = 6
      · rw [if_pos h6, if_pos h6, wne i (by omega)]
        obtain ⟨e, g1, g2, g3, g4, g5, g6⟩ := rW5_run p0 a hl ha k (i + 1) (by omega) (by omega)
        refine ⟨e, g1, by omega, g3, fun j hj hj2 => ?_, g5, g6⟩
        by_cases hji : j = i
        · rw [hji]; exact h6
        · exact g4 j (by omega) hj2
      · rw [if_neg h6, if_neg h6]
        refine ⟨i, rfl, Nat.le_refl _, by omega, fun j hj hj2 => by omega, fun _ => h6, ?_⟩
        simp [h]
    · rw [if_neg (by omega), List.drop_eq_nil_of_le (by omega), nextEN]
      exact ⟨i, rfl, Nat.le_refl _, hi, fun j hj hj2 => by omega, fun h' => absurd h' h, by rw [decide_eq_false (by omega)]⟩

theorem rW5_fill (e : Nat) (he : e ≤ 400000000) : ∀ (k i : Nat) (a : List Int), e - i < k → i ≤ e → e ≤ a.length →
    rW5_L3 N (e : Int) k a (i : Int) = some (a.take i ++ (List.replicate (e - i) 4 ++ a.drop e))
  | 0, _, _, h, _, _ => absurd h (Nat.not_lt_zero _)
  | k + 1, i, a, hk, hi, hea => by
    unfold rW5_L3
    by_cases h : i < e
    · have hia : i < a.length := by omega
      rw [if_pos (by omega), ixe hia, Option.bind_some, setxe _ hia, Option.bind_some, wne i (by omega), rW5_fill e he k (i + 1) _ (by omega) (by omega) (by simp; omega), take_succ_set _ _ _ hia, List.drop_set_of_lt (by omega),
        show e - i = (e - (i + 1)) + 1 by omega, List.replicate_succ, List.append_assoc]
      rfl
    · rw [if_neg (by omega)]
      obtain rfl : i = e := by omega
      rw [Nat.sub_self, List.replicate_zero, List.nil_append, List.take_append_drop]

/-- a run of ET -/
theorem w5S_run (yes : Bool) : ∀ (n : Nat) (p : Int) (r : List Int), (yes = true ↔ (p = 4 ∨ nextEN r = true)) → (p = 4 → yes = true) → 
    w5S p (List.replicate n 6 ++ r) = List.replicate n (if yes = true then 4 else 6) ++ w5S (if n = 0 then p else if yes = true then 4 else 6) r
  | 0, p, r, _, _ => rfl
  | n + 1, p, r, h, hp => by
    rw [List.replicate_succ, List.cons_append, w5S]
    have hn : ∀ m, nextEN (List.replicate m 6 ++ r) = nextEN r := by
      intro m
      induction m with
      | zero => rfl
      | succ m ih => rw [List.replicate_succ, List.cons_append, nextEN, if_pos rfl, ih]
    rw [hn n]
    cases yes with
    | true =>
      rw [if_pos ⟨rfl, h.1 rfl⟩, if_pos rfl, List.replicate_succ, List.cons_append, w5S_run true n 4 r (by simp) (by simp)]
      simp
    | false =>
      have hno : ¬ (p = 4 ∨ nextEN r = true) := fun e => by have := h.2 e; cases this
      rw [if_neg (fun e => hno e.2), if_neg (by decide), List.replicate_succ, List.cons_append, w5S_run false n 6 r (by
        constructor
        · intro e; cases e
        · intro e
          rcases e with e | e
          · cases e
          · exact absurd (.inr e) hno) (fun e => by cases e)]
      simp

theorem run_list (a : List Int) (v : Int) : ∀ (n i : Nat), i + n ≤ a.length → (∀ j, i ≤ j → j < i + n → a.getD j 0 = v) → a.drop i = List.replicate n v ++ a.drop (i + n)
  | 0, i, _, _ => rfl
  | n + 1, i, h, hv => by
    rw [drop_e (by omega), hv i (Nat.le_refl _) (by omega), run_list a v n (i + 1) (by omega) (fun j h1 h2 => hv j (by omega) (by omega)), List.replicate_succ, show i + 1 + n = i + (n + 1) by omega]
    rfl
end
end Go.Proofs.Ytdpcaidhpccaiaa
