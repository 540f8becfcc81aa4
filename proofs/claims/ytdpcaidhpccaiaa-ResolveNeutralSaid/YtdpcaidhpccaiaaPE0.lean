/-
  The program's small calls, and what it does to rows, by lists.
-/
import Derived.Test.YtdpcaidhpccaiaaS4
import Derived.Test.YtdpcaidhpccaiaaP2
namespace Go.Proofs.Ytdpcaidhpccaiaa
open Go Go.RowKit
set_option linter.unusedVariables false
set_option linter.unusedSectionVars false
set_option linter.unusedSimpArgs false

theorem pEdge_eq (N : Nat) (c : Int) : pEdge N c = some (sosS c) := by
  unfold pEdge sosS
  split <;> rfl
theorem pSideOf_eq (N : Nat) (v : Int) (hv : 0 ≤ v) : pSideOf N v = some (sideL v) := by
  unfold pSideOf sideL
  rw [Int.tmod_eq_emod_of_nonneg hv]
  split <;> rfl
theorem pDir_eq (N : Nat) (c : Int) : pDir N c = some (dirC c) := by
  rw [← rSide_eq N c]
  rfl
theorem pIso_eq (N : Nat) (c : Int) : pIso N c = some (isIso c) := by
  unfold pIso isIso
  by_cases h : c ≥ 20
  · rw [if_pos h]; congr 1; simp only [decide_eq_decide]; omega
  · rw [if_neg h, decide_eq_false (by omega)]
theorem pNeu_eq (N : Nat) (c : Int) : pNeu N c = some (isNeu c) := by
  unfold pNeu isNeu
  rw [pIso_eq, Option.bind_some]
  unfold isIso
  by_cases h1 : c = 11
  · rw [if_pos h1, decide_eq_true (by omega)]
  rw [if_neg h1]
  by_cases h2 : c = 12
  · rw [if_pos h2, decide_eq_true (by omega)]
  rw [if_neg h2]
  by_cases h3 : c = 13
  · rw [if_pos h3, decide_eq_true (by omega)]
  rw [if_neg h3]
  by_cases h4 : c = 14
  · rw [if_pos h4, decide_eq_true (by omega)]
  rw [if_neg h4]
  congr 1
  simp only [decide_eq_decide]
  omega
theorem pBetw_eq (N : Nat) (a b side : Int) : pBetw N a b side = some (dirN side a b) := by
  unfold pBetw dirN
  by_cases h1 : a = b
  · rw [if_pos h1]
    by_cases h2 : a ≠ 0
    · rw [if_pos h2, if_pos ⟨h1, h2⟩]
    · rw [if_neg h2, if_neg (fun e => h2 e.2)]
  · rw [if_neg h1, if_neg (fun e => h1 e.1)]
theorem pSep_eq (N : Nat) (a c b : Int) (hc : c = 5 ∨ c = 8) : pSep N a c b = some (betw a c b) := by
  unfold pSep betw
  by_cases h1 : a = b
  · rw [if_neg (fun e => e h1)]
    by_cases h2 : a = 4
    · rw [if_pos h2, if_pos ⟨h1, .inl ⟨h2, hc⟩⟩]
    · rw [if_neg h2]
      by_cases h3 : a = 7
      · rw [if_pos h3]
        by_cases h4 : c = 8
        · rw [if_pos h4, if_pos ⟨h1, .inr ⟨h3, h4⟩⟩]
        · rw [if_neg h4, if_neg (by omega)]
      · rw [if_neg h3, if_neg (by omega)]
  · rw [if_pos h1, if_neg (fun e => h1 e.1)]
/-- W6 and W7 of one class -/
def settS (c s : Int) : Int := if c = 5 ∨ c = 6 ∨ c = 8 then 14 else if c = 4 ∧ s = 1 then 1 else c
theorem pSett_eq (N : Nat) (c s : Int) : pSett N c s = some (settS c s) := by
  unfold pSett settS
  by_cases h5 : c = 5
  · rw [if_pos h5, if_pos (.inl h5)]
  rw [if_neg h5]
  by_cases h6 : c = 6
  · rw [if_pos h6, if_pos (.inr (.inl h6))]
  rw [if_neg h6]
  by_cases h8 : c = 8
  · rw [if_pos h8, if_pos (.inr (.inr h8))]
  rw [if_neg h8, if_neg (show ¬ (c = 5 ∨ c = 6 ∨ c = 8) by omega)]
  by_cases h4 : c = 4
  · rw [if_pos h4]
    by_cases hs : s = 1
    · rw [if_pos hs, if_pos ⟨h4, hs⟩]
    · rw [if_neg hs, if_neg (fun e => hs e.2)]
  · rw [if_neg h4, if_neg (fun e => h4 e.1)]
theorem pClassAt_eq (N : Nat) (a : List Int) (i : Nat) : pClassAt N a (i : Int) = some (if i < a.length then a.getD i 0 else 0) := by
  unfold pClassAt
  by_cases h : i < a.length
  · rw [if_pos (by omega), ixe h, if_pos h]; rfl
  · rw [if_neg (by omega), if_neg h]

section
variable {N : Nat}

theorem pFill_loop (p0 : List Int) (v : Int) (hl : p0.length ≤ 400000000) : ∀ (k i : Nat) (a : List Int), p0.length - i < k → i ≤ p0.length → a.length = p0.length →
    pFill_L1 N p0 v k a (i : Int) = some (a.take i ++ List.replicate (p0.length - i) v)
  | 0, _, _, h, _, _ => absurd h (Nat.not_lt_zero _)
  | k + 1, i, a, hk, hi, ha => by
    unfold pFill_L1
    by_cases h : i < p0.length
    · have hia : i < a.length := by omega
      rw [if_pos (by omega), ixe hia, Option.bind_some, setxe _ hia, Option.bind_some, wne i (by omega), pFill_loop p0 v hl k (i + 1) _ (by omega) (by omega) (by simpa using ha), take_succ_set _ _ _ hia,
        show p0.length - i = (p0.length - (i + 1)) + 1 by omega, List.replicate_succ, List.append_assoc]
      rfl
    · rw [if_neg (by omega), show p0.length - i = 0 by omega, List.replicate_zero, List.append_nil, List.take_of_length_le (by omega)]
theorem pFill_eq (l : List Int) (v : Int) (hl : l.length ≤ 400000000) (hN : l.length < N) : pFill N l v = some (List.replicate l.length v) := by
  unfold pFill
  rw [show (0 : Int) = ((0 : Nat) : Int) from rfl, pFill_loop l v hl N 0 l (by omega) (Nat.zero_le _) rfl, List.take_zero]
  rfl
theorem cutx_e (a : List Int) (i e : Nat) (h : i ≤ e) (he : e ≤ a.length) : cutx a (i : Int) (e : Int) = some ((a.take e).drop i) := by
  unfold cutx
  rw [if_pos ⟨by omega, by omega, by omega⟩]
  rfl
theorem cut_len (a : List Int) (i e : Nat) (h : i ≤ e) (he : e ≤ a.length) : ((a.take e).drop i).length = e - i := by
  rw [List.length_drop, List.length_take]; omega
/-- a piece of a row filled -/
def fillS (a : List Int) (i e : Nat) (v : Int) : List Int := a.take i ++ (List.replicate (e - i) v ++ a.drop e)
theorem putx_e (a m : List Int) (i e : Nat) : putx a (i : Int) (e : Int) m = some (a.take i ++ m ++ a.drop e) := rfl
theorem fillS_len (a : List Int) (i e : Nat) (v : Int) (h : i ≤ e) (he : e ≤ a.length) : (fillS a i e v).length = a.length := by
  unfold fillS
  simp only [List.length_append, List.length_take, List.length_replicate, List.length_drop]
  omega
theorem fillS_take (a : List Int) (i e : Nat) (v : Int) (h : i ≤ e) (he : e ≤ a.length) : (fillS a i e v).take e = a.take i ++ List.replicate (e - i) v := by
  unfold fillS
  rw [← List.append_assoc, List.take_append_of_le_length (by simp only [List.length_append, List.length_take, List.length_replicate]; omega), List.take_of_length_le (by simp only [List.length_append, List.length_take, List.length_replicate]; omega)]
theorem fillS_drop (a : List Int) (i e : Nat) (v : Int) (h : i ≤ e) (he : e ≤ a.length) : (fillS a i e v).drop e = a.drop e := by
  unfold fillS
  have hlen : (a.take i ++ List.replicate (e - i) v).length = e := by simp only [List.length_append, List.length_take, List.length_replicate]; omega
  rw [← List.append_assoc, List.drop_append_of_le_length (by omega), List.drop_eq_nil_of_le (by omega), List.nil_append]
theorem fillS_ge (a : List Int) (i e j : Nat) (v : Int) (h : i ≤ e) (he : e ≤ a.length) (hj : e ≤ j) : (fillS a i e v).drop j = a.drop j := by
  have := congrArg (List.drop (j - e)) (fillS_drop a i e v h he)
  rw [List.drop_drop, List.drop_drop, show e + (j - e) = j by omega] at this
  exact this

/-! ### rows without BN -/
theorem pDense_loop (p0 : List Int) (hl : p0.length ≤ 400000000) : ∀ (k i : Nat) (a : List Int), p0.length - i < k → i ≤ p0.length → a.length ≤ i →
    pDense_L1 N p0 k a (i : Int) = some (a ++ noBN (p0.drop i))
  | 0, _, _, h, _, _ => absurd h (Nat.not_lt_zero _)
  | k + 1, i, a, hk, hi, ha => by
    unfold pDense_L1
    by_cases h : i < p0.length
    · rw [if_pos (by omega), ixe h, Option.bind_some, wne i (by omega), drop_e h]
      have ih := fun a => pDense_loop p0 hl k (i + 1) a (by omega) (by omega)
      by_cases h10 : p0.getD i 0 = 10
      · rw [if_neg (fun e => e h10), ih a (by omega)]
        unfold noBN
        rw [List.filter_cons, if_neg (by rw [h10]; decide)]
      · rw [if_pos h10, apx_to a _ (by simp; omega), Option.bind_some, ih _ (by simp; omega)]
        unfold noBN
        rw [List.filter_cons, if_pos (by simpa using h10), List.append_assoc]
        rfl
    · rw [if_neg (by omega), List.drop_eq_nil_of_le (by omega)]
      simp [noBN]
theorem pDense_eq (l : List Int) (hl : l.length ≤ 400000000) (hN : l.length < N) : pDense N l = some (noBN l) := by
  unfold pDense mk0
  rw [if_pos ⟨by omega, by omega⟩, Option.bind_some, show (0 : Int) = ((0 : Nat) : Int) from rfl, pDense_loop l hl N 0 [] (by omega) (Nat.zero_le _) (Nat.le_refl _), Option.bind_some, List.nil_append, List.drop_zero]

theorem pSpread_loop (p0 row : List Int) (hl : p0.length ≤ 400000000) : ∀ (k i j : Nat) (a : List Int), p0.length - i < k → i ≤ p0.length → a.length = p0.length → j ≤ i → j + (noBN (p0.drop i)).length = row.length →
    pSpread_L1 N p0 row k a (j : Int) (i : Int) = some (a.take i ++ mergeB (p0.drop i) (row.drop j))
  | 0, _, _, _, h, _, _, _, _ => absurd h (Nat.not_lt_zero _)
  | k + 1, i, j, a, hk, hi, ha, hj, hr => by
    unfold pSpread_L1
    by_cases h : i < p0.length
    · have hia : i < a.length := by omega
      rw [if_pos (by omega), ixe h, Option.bind_some, wne i (by omega), drop_e h]
      have ih := fun j a => pSpread_loop p0 row hl k (i + 1) j a (by omega) (by omega)
      rw [drop_e h] at hr
      unfold noBN at hr
      rw [List.filter_cons] at hr
      by_cases h10 : p0.getD i 0 = 10
      · rw [if_neg (by rw [h10]; decide)] at hr
        rw [if_pos h10, h10, mergeB_bn, ixe hia, Option.bind_some, setxe _ hia, Option.bind_some, ih j _ (by simpa using ha) (by omega) hr, there a i 10 hia]
      · rw [if_pos (by simpa using h10)] at hr
        rw [List.length_cons] at hr
        have hjr : j < row.length := by omega
        rw [if_neg h10, drop_e hjr, mergeB_no h10, ixe hjr, Option.bind_some, ixe hia, Option.bind_some, setxe _ hia, Option.bind_some, wne j (by omega), ih (j + 1) _ (by simpa using ha) (by omega) (by unfold noBN; omega), there a i _ hia]
    · rw [if_neg (by omega), List.drop_eq_nil_of_le (by omega), List.take_of_length_le (by omega)]
      simp [mergeB]
theorem pSpread_eq (l row : List Int) (hl : l.length ≤ 400000000) (hN : l.length < N) (hr : row.length = (noBN l).length) : pSpread N l row = some (mergeB l row) := by
  unfold pSpread
  rw [mkx_nat _ (by omega), Option.bind_some]
  have h := pSpread_loop (N := N) l row hl N 0 0 (List.replicate l.length 0) (by omega) (Nat.zero_le _) (by simp) (Nat.le_refl _) (by rw [List.drop_zero]; omega)
  rw [List.drop_zero, List.drop_zero, List.take_zero, List.nil_append] at h
  rw [show pSpread_L1 N l row N (List.replicate l.length 0) 0 0 = some (mergeB l row) from h]
  rfl

/-! ### W1, W2 and W3 -/
theorem pMarks_loop (p0 : List Int) (hl : p0.length ≤ 400000000) : ∀ (k i : Nat) (a : List Int) (b : Int), p0.length - i < k → i ≤ p0.length → a.length = p0.length →
    pMarks_L1 N p0 k a b (i : Int) = some (a.take i ++ w1S b (a.drop i))
  | 0, _, _, _, h, _, _ => absurd h (Nat.not_lt_zero _)
  | k + 1, i, a, b, hk, hi, ha => by
    unfold pMarks_L1
    by_cases h : i < p0.length
    · have hia : i < a.length := by omega
      rw [if_pos (by omega), ixe hia, Option.bind_some, drop_e hia, w1S, wne i (by omega)]
      have ih := fun a b => pMarks_loop p0 hl k (i + 1) a b (by omega) (by omega)
      by_cases h9 : a.getD i 0 = 9
      · rw [if_pos h9, if_pos h9, Option.bind_some, setxe _ hia, Option.bind_some, Option.bind_some, ixe (by rw [List.length_set]; exact hia), Option.bind_some, pIso_eq, Option.bind_some]
        have hg : (a.set i b).getD i 0 = b := by rw [List.getD_eq_getElem?_getD, List.getElem?_set_self hia]; rfl
        rw [hg, there a i b hia, ← drop_set_ge a i b]
        cases isIso b with
        | true => exact ih _ _ (by simp [ha])
        | false => exact ih _ _ (by simp [ha])
      · rw [if_neg h9, if_neg h9, Option.bind_some, ixe hia, Option.bind_some, pIso_eq, Option.bind_some, here a i hia]
        cases isIso (a.getD i 0) with
        | true => exact ih _ _ ha
        | false => exact ih _ _ ha
    · rw [if_neg (by omega), List.drop_eq_nil_of_le (by omega), List.take_of_length_le (by omega), w1S, List.append_nil]
theorem pMarks_eq (l : List Int) (s : Int) (hl : l.length ≤ 400000000) (hN : l.length < N) : pMarks N l s = some (w1S s l) := by
  unfold pMarks
  rw [show (0 : Int) = ((0 : Nat) : Int) from rfl, pMarks_loop l hl N 0 l s (by omega) (Nat.zero_le _) rfl]
  rfl

theorem w23_cons (s c : Int) (r : List Int) : w3S (w2S s (c :: r)) = (if c = 3 then 2 else if c = 4 ∧ s = 3 then 7 else c) :: w3S (w2S (if c = 1 ∨ c = 2 ∨ c = 3 then c else s) r) := by
  rw [w2S]
  show (if (if c = 4 ∧ s = 3 then (7 : Int) else c) = 3 then 2 else (if c = 4 ∧ s = 3 then (7 : Int) else c)) :: w3S _ = _
  congr 1
  by_cases h3 : c = 3
  · subst h3; rfl
  · by_cases h4 : c = 4 ∧ s = 3
    · rw [if_pos h4, if_neg h3]; rfl
    · rw [if_neg h4, if_neg h3]
theorem pArab_loop (p0 : List Int) (hl : p0.length ≤ 400000000) : ∀ (k i : Nat) (a : List Int) (s : Int), p0.length - i < k → i ≤ p0.length → a.length = p0.length →
    pArab_L1 N p0 k a s (i : Int) = some (a.take i ++ w3S (w2S s (a.drop i)))
  | 0, _, _, _, h, _, _ => absurd h (Nat.not_lt_zero _)
  | k + 1, i, a, s, hk, hi, ha => by
    unfold pArab_L1
    by_cases h : i < p0.length
    · have hia : i < a.length := by omega
      rw [if_pos (by omega), ixe hia, Option.bind_some, drop_e hia, w23_cons, wne i (by omega)]
      have ih := fun a b => pArab_loop p0 hl k (i + 1) a b (by omega) (by omega)
      by_cases h12 : a.getD i 0 = 1 ∨ a.getD i 0 = 2
      · have h1 : (if a.getD i 0 = 1 then some true else if a.getD i 0 = 2 then some true else some false) = (some true : Option Bool) := by
          rcases h12 with e | e <;> rw [e] <;> rfl
        rw [h1]
        simp only [Option.bind_some]
        rw [if_neg (show ¬ a.getD i 0 = 3 by omega), if_neg (show ¬ (a.getD i 0 = 4 ∧ s = 3) by omega), if_pos (show a.getD i 0 = 1 ∨ a.getD i 0 = 2 ∨ a.getD i 0 = 3 by omega), here a i hia]
        exact ih _ _ ha
      · have h1 : (if a.getD i 0 = 1 then some true else if a.getD i 0 = 2 then some true else some false) = (some false : Option Bool) := by
          rw [if_neg (by omega), if_neg (by omega)]
        rw [h1]
        simp only [Option.bind_some]
        by_cases h3 : a.getD i 0 = 3
        · rw [if_pos h3, if_pos h3, if_pos (show a.getD i 0 = 1 ∨ a.getD i 0 = 2 ∨ a.getD i 0 = 3 by omega), setxe _ hia, Option.bind_some, there a i 2 hia, ← drop_set_ge a i 2]
          exact ih _ _ (by simp [ha])
        · rw [if_neg h3, if_neg h3, if_neg (show ¬ (a.getD i 0 = 1 ∨ a.getD i 0 = 2 ∨ a.getD i 0 = 3) by omega)]
          by_cases h4 : a.getD i 0 = 4
          · rw [if_pos h4]
            by_cases hs : s = 3
            · rw [if_pos hs, if_pos ⟨h4, hs⟩, setxe _ hia, Option.bind_some, there a i 7 hia, ← drop_set_ge a i 7]
              exact ih _ _ (by simp [ha])
            · rw [if_neg hs, if_neg (fun e => hs e.2), here a i hia]
              exact ih _ _ ha
          · rw [if_neg h4, if_neg (fun e => h4 e.1), here a i hia]
            exact ih _ _ ha
    · rw [if_neg (by omega), List.drop_eq_nil_of_le (by omega), List.take_of_length_le (by omega)]
      simp [w2S, w3S]
theorem pArab_eq (l : List Int) (s : Int) (hl : l.length ≤ 400000000) (hN : l.length < N) : pArab N l s = some (w3S (w2S s l)) := by
  unfold pArab
  rw [show (0 : Int) = ((0 : Nat) : Int) from rfl, pArab_loop l hl N 0 l s (by omega) (Nat.zero_le _) rfl]
  rfl

/-! ### neutral ones -/
theorem pEndN_run (a : List Int) (hl : a.length ≤ 400000000) (eos : Int) : ∀ (k i : Nat), a.length - i < k → i ≤ a.length →
    ∃ e : Nat, pEndN_L1 N a k (i : Int) = some (e : Int) ∧ i ≤ e ∧ e ≤ a.length ∧ (∀ j, i ≤ j → j < e → isNeu (a.getD j 0) = true) ∧ (e < a.length → isNeu (a.getD e 0) = false)
  | 0, _, h, _ => absurd h (Nat.not_lt_zero _)
  | k + 1, i, hk, hi => by
    unfold pEndN_L1
    by_cases h : i < a.length
    · rw [if_pos (by omega), ixe h, Option.bind_some, pNeu_eq, Option.bind_some]
      cases h6 : isNeu (a.getD i 0) with
      | true =>
        show ∃ e : Nat, pEndN_L1 N a k (IntKind.i64.wrap ((i : Int) + 1)) = _ ∧ _
        rw [wne i (by omega)]
        obtain ⟨e, g1, g2, g3, g4, g5⟩ := pEndN_run a hl eos k (i + 1) (by omega) (by omega)
        refine ⟨e, g1, by omega, g3, fun j hj hj2 => ?_, g5⟩
        by_cases hji : j = i
        · rw [hji]; exact h6
        · exact g4 j (by omega) hj2
      | false => exact ⟨i, rfl, Nat.le_refl _, by omega, fun j hj hj2 => by omega, fun _ => h6⟩
    · rw [if_neg (by omega)]
      exact ⟨i, rfl, Nat.le_refl _, hi, fun j hj hj2 => by omega, fun h' => absurd h' h⟩

theorem pNeut_loop (p0 : List Int) (side eos : Int) (hl : p0.length ≤ 400000000) (hN : p0.length < N) : ∀ (k i : Nat) (a : List Int) (p : Int), p0.length - i < k → a.length = p0.length →
    pNeut_L1 N p0 side (sosS eos) k a p (i : Int) = some (a.take i ++ nS side eos p (a.drop i))
  | 0, _, _, _, h, _ => absurd h (Nat.not_lt_zero _)
  | k + 1, i, a, p, hk, ha => by
    unfold pNeut_L1
    by_cases h : i < p0.length
    · rw [if_pos (by omega)]
      obtain ⟨e, g1, g2, g3, g4, g5⟩ := pEndN_run (N := N) a (by omega) eos N i (by omega) (by omega)
      unfold pEndN
      rw [g1, Option.bind_some, Option.bind_some]
      obtain ⟨b1, b2⟩ := nS_run side eos p a (e - i) i (by omega) (fun j h1 h2 => g4 j h1 (by omega))
      rw [show i + (e - i) = e by omega] at b1 b2
      have hx : (if (e : Int) < ((p0.length : Nat) : Int) then (ix a (e : Int)).bind fun x41 => (pDir N x41).bind fun x45 => some x45 else some (sosS eos)) = some (behindN eos (a.drop e)) := by
        by_cases he : e < p0.length
        · rw [if_pos (by omega), ixe (by omega), Option.bind_some, pDir_eq, Option.bind_some, drop_e (show e < a.length by omega), behindN, g5 (by omega)]
          rfl
        · rw [if_neg (by omega), List.drop_eq_nil_of_le (by omega), behindN]
      rw [hx]
      simp only [Option.bind_some]
      rw [cutx_e a i e g2 g3, Option.bind_some, pBetw_eq, Option.bind_some, pFill_eq _ _ (by rw [cut_len a i e g2 g3]; omega) (by rw [cut_len a i e g2 g3]; omega), Option.bind_some, cut_len a i e g2 g3, putx_e, Option.bind_some, wne e (by omega), List.append_assoc]
      show pNeut_L1 N p0 side (sosS eos) k (fillS a i e _) _ _ = _
      rw [pNeut_loop p0 side eos hl hN k (e + 1) _ _ (by omega) (by rw [fillS_len a i e _ g2 g3]; exact ha), b2, fillS_ge a i e (e + 1) _ g2 g3 (by omega)]
      congr 1
      generalize dirN side p (behindN eos (a.drop e)) = v
      by_cases he : e < a.length
      · have hd : (fillS a i e v).getD e 0 = a.getD e 0 := by
          have := congrArg (fun l => l.getD 0 0) (fillS_drop a i e v g2 g3)
          simpa [getD_drop] using this
        rw [← here (fillS a i e v) e (by rw [fillS_len a i e _ g2 g3]; exact he), hd, fillS_take a i e v g2 g3, List.append_assoc]
        congr 2
        rw [drop_e he, behindN, g5 he, nS, g5 he]
        rfl
      · have he2 : e = a.length := by omega
        rw [List.take_of_length_le (by rw [fillS_len a i e _ g2 g3]; omega), List.drop_eq_nil_of_le (show a.length ≤ e + 1 by omega), List.drop_eq_nil_of_le (show a.length ≤ e by omega), nS, nS, List.append_nil, List.append_nil]
        unfold fillS
        rw [List.drop_eq_nil_of_le (show a.length ≤ e by omega), List.append_nil]
    · rw [if_neg (by omega), List.drop_eq_nil_of_le (by omega), List.take_of_length_le (by omega), nS, List.append_nil]

theorem pNeutral_to (l : List Int) (level sos eos : Int) (hv : 0 ≤ level) (hl : l.length ≤ 400000000) (hN : l.length < N) : pNeutral N l level sos eos = some (neutralS l level sos eos) := by
  have hn := noBN_len l
  unfold pNeutral
  rw [pDense_eq l hl (by omega), Option.bind_some, pSideOf_eq N level hv, Option.bind_some, pEdge_eq, Option.bind_some, pEdge_eq, Option.bind_some]
  unfold pNeut
  rw [show (0 : Int) = ((0 : Nat) : Int) from rfl, pNeut_loop (noBN l) (sideL level) eos (by omega) (by omega) N 0 (noBN l) _ (by omega) rfl, Option.bind_some, List.take_zero, List.drop_zero, List.nil_append, pSpread_eq l _ hl (by omega) (nS_len _ _ _ _)]
  rfl

/-! ### levels -/
theorem pAbove_eq (N : Nat) (c level : Int) (hv : 0 ≤ level) (hv2 : level ≤ 255) : ∃ d, pAbove N c level = some d ∧ IntKind.u8.wrap (level + d) = lvlC level c := by
  unfold pAbove lvlC
  rw [pDir_eq, pSideOf_eq N level hv, Int.tmod_eq_emod_of_nonneg hv]
  unfold dirC sideL
  have hm : level % 2 = 0 ∨ level % 2 = 1 := by omega
  have h0 : IntKind.u8.wrap (level + 0) = level := by rw [Int.add_zero]; exact w8e hv hv2
  by_cases h4 : c = 4
  · subst h4
    rcases hm with hm | hm
    · exact ⟨2, by rw [hm]; rfl, by rw [hm]; rfl⟩
    · exact ⟨1, by rw [hm]; rfl, by rw [hm]; rfl⟩
  by_cases h7 : c = 7
  · subst h7
    rcases hm with hm | hm
    · exact ⟨2, by rw [hm]; rfl, by rw [hm]; rfl⟩
    · exact ⟨1, by rw [hm]; rfl, by rw [hm]; rfl⟩
  by_cases h1 : c = 1
  · subst h1
    rcases hm with hm | hm
    · exact ⟨0, by rw [hm]; rfl, by rw [hm]; exact h0⟩
    · exact ⟨1, by rw [hm]; rfl, by rw [hm]; rfl⟩
  by_cases h2 : c = 2
  · subst h2
    rcases hm with hm | hm
    · exact ⟨1, by rw [hm]; rfl, by rw [hm]; rfl⟩
    · exact ⟨0, by rw [hm]; rfl, by rw [hm]; exact h0⟩
  refine ⟨0, ?_, ?_⟩
  · simp [h1, h2, h4, h7]
  · rw [h0]
    simp [h1, h2, h4, h7]

theorem pLvl_loop (p0 : List Int) (level : Int) (hv : 0 ≤ level) (hv2 : level ≤ 255) (hl : p0.length ≤ 400000000) : ∀ (k i : Nat) (a : List Int), p0.length - i < k → i ≤ p0.length → a.length = p0.length →
    pLvl_L1 N p0 level k a (i : Int) = some (a.take i ++ (p0.drop i).map (lvlC level))
  | 0, _, _, h, _, _ => absurd h (Nat.not_lt_zero _)
  | k + 1, i, a, hk, hi, ha => by
    unfold pLvl_L1
    by_cases h : i < p0.length
    · have hia : i < a.length := by omega
      obtain ⟨d, h1, h2⟩ := pAbove_eq N (p0.getD i 0) level hv hv2
      rw [if_pos (by omega), ixe h, Option.bind_some, h1, Option.bind_some, ixe hia, Option.bind_some, setxe _ hia, Option.bind_some, wne i (by omega), pLvl_loop p0 level hv hv2 hl k (i + 1) _ (by omega) (by omega) (by simpa using ha), h2, drop_e h, List.map_cons, there a i _ hia]
    · rw [if_neg (by omega), List.drop_eq_nil_of_le (by omega), List.take_of_length_le (by omega), List.map_nil, List.append_nil]
theorem pLvl_to (l : List Int) (level : Int) (hv : 0 ≤ level) (hv2 : level ≤ 255) (hl : l.length ≤ 400000000) (hN : l.length < N) : pLvl N l level = some (l.map (lvlC level)) := by
  unfold pLvl
  rw [mkx_nat _ (by omega), Option.bind_some, show (0 : Int) = ((0 : Nat) : Int) from rfl, pLvl_loop l level hv hv2 hl N 0 _ (by omega) (Nat.zero_le _) (by simp), Option.bind_some, List.take_zero]
  rfl
end
end Go.Proofs.Ytdpcaidhpccaiaa
