/-
  Weak of the document, by lists: the whole.
-/
import Derived.Test.YtdpcaidhpccaiaaS2
namespace Go.Proofs.Ytdpcaidhpccaiaa
open Go Go.RowKit
set_option linter.unusedVariables false
set_option linter.unusedSectionVars false
set_option linter.unusedSimpArgs false

section
variable {N : Nat}

/-- the class ahead -/
def aheadC (a : List Int) (i : Nat) : Int := if i = 0 then 0 else a.getD (i - 1) 0

theorem nextEN_at (a : List Int) (e : Nat) (h6 : e < a.length → a.getD e 0 ≠ 6) : nextEN (a.drop e) = decide (e < a.length ∧ a.getD e 0 = 4) := by
  by_cases h : e < a.length
  · rw [drop_e h, nextEN, if_neg (h6 h)]
    simp [h]
  · rw [List.drop_eq_nil_of_le (by omega), nextEN, decide_eq_false (by omega)]

theorem rW5_loop (p0 : List Int) (hl : p0.length ≤ 400000000) (hN : p0.length < N) : ∀ (k i : Nat) (a : List Int), p0.length - i < k → i ≤ p0.length → a.length = p0.length →
    rW5_L1 N p0 k a (i : Int) = some (a.take i ++ w5S (aheadC a i) (a.drop i))
  | 0, _, _, h, _, _ => absurd h (Nat.not_lt_zero _)
  | k + 1, i, a, hk, hi, ha => by
    unfold rW5_L1
    by_cases h : i < p0.length
    · have hia : i < a.length := by omega
      have ih := fun j a (h1 : p0.length - j < k) (h2 : j ≤ p0.length) => rW5_loop p0 hl hN k j a h1 h2
      rw [if_pos (by omega), ixe hia, Option.bind_some]
      by_cases h6 : a.getD i 0 = 6
      · rw [if_neg (fun e => e h6)]
        obtain ⟨e, g1, g2, g3, g4, g5, g6⟩ := rW5_run (N := N) p0 a hl ha N i (by omega) hi
        have hie : i < e := by
          rcases Nat.lt_or_ge i e with q | q
          · exact q
          · obtain rfl : e = i := by omega
            exact absurd h6 (g5 h)
        have hrun : a.drop i = List.replicate (e - i) 6 ++ a.drop e := by
          have := run_list a 6 (e - i) i (by omega) (fun j h1 h2 => g4 j h1 (by omega))
          rw [show i + (e - i) = e by omega] at this
          exact this
        have hnx := nextEN_at a e (fun q => g5 (by omega))
        have hwe : IntKind.i64.wrap (IntKind.i64.wrap ((e : Int) - 1) + 1) = (e : Int) := by rw [wme e (by omega) (by omega), wne (e - 1) (by omega)]; congr 1; omega
        -- what stands ahead, or behind
        have hb1 : (if (i : Int) > 0 then ((ix a (IntKind.i64.wrap ((i : Int) - 1))).bind fun x88 => (if x88 = 4 then some (true) else some (false))) else some (false) : Option Bool) = some (decide (aheadC a i = 4)) := by
          unfold aheadC
          by_cases h0 : i = 0
          · subst h0; rfl
          · rw [if_pos (by omega), if_neg h0, wme i (by omega) (by omega), ixe (by omega), Option.bind_some]
            by_cases q : a.getD (i - 1) 0 = 4
            · rw [if_pos q, decide_eq_true q]
            · rw [if_neg q, decide_eq_false q]
        have hb2 : (if (e : Int) < ((p0.length : Nat) : Int) then ((ix a (e : Int)).bind fun x92 => (if x92 = 4 then some (true) else some (false))) else some (false) : Option Bool) = some (nextEN (a.drop e)) := by
          rw [hnx]
          by_cases q : e < p0.length
          · rw [if_pos (by omega), ixe (by omega), Option.bind_some]
            by_cases q2 : a.getD e 0 = 4
            · rw [if_pos q2, decide_eq_true ⟨by omega, q2⟩]
            · rw [if_neg q2, decide_eq_false (fun z => q2 z.2)]
          · rw [if_neg (by omega), decide_eq_false (by omega)]
        simp only [g1, Option.bind_some, hb1]
        have key : ∀ (y : Bool), y = (decide (aheadC a i = 4) || nextEN (a.drop e)) →
            ((match y with | true => rW5_L3 N (e : Int) N a (i : Int) | false => some a : Option (List Int)).bind fun l68 => rW5_L1 N p0 k l68 (e : Int)) = some (a.take i ++ w5S (aheadC a i) (a.drop i)) := by
          intro y hy
          have hyes : y = true ↔ (aheadC a i = 4 ∨ nextEN (a.drop e) = true) := by rw [hy]; simp
          rw [hrun, w5S_run y (e - i) (aheadC a i) (a.drop e) hyes (fun q => hyes.2 (.inl q)), if_neg (show ¬ e - i = 0 by omega)]
          cases y with
          | true =>
            simp only [if_true]
            rw [rW5_fill e (by omega) N i a (by omega) (by omega) (by omega), Option.bind_some]
            have ht : (a.take i).length = i := by simp; omega
            have hlen : (a.take i ++ (List.replicate (e - i) 4 ++ a.drop e)).length = p0.length := by simp; omega
            rw [ih e _ (by omega) g3 hlen]
            have h1 : (a.take i ++ (List.replicate (e - i) 4 ++ a.drop e)).take e = a.take i ++ List.replicate (e - i) 4 := by
              rw [← List.append_assoc]
              exact List.take_left' (by simp; omega)
            have h2 : (a.take i ++ (List.replicate (e - i) 4 ++ a.drop e)).drop e = a.drop e := by
              rw [← List.append_assoc]
              exact List.drop_left' (by simp; omega)
            have h3 : aheadC (a.take i ++ (List.replicate (e - i) 4 ++ a.drop e)) e = 4 := by
              unfold aheadC
              rw [if_neg (by omega), List.getD_eq_getElem?_getD, List.getElem?_append_right (by simp; omega), List.getElem?_append_left (by simp; omega), List.getElem?_replicate, if_pos (by simp; omega)]
              rfl
            rw [h1, h2, h3, List.append_assoc]
          | false =>
            simp only [Bool.false_eq_true, if_false, Option.bind_some]
            rw [ih e a (by omega) g3 ha]
            have h1 : a.take e = a.take i ++ List.replicate (e - i) 6 := by
              have := List.take_append_drop i (a.take e)
              rw [← this, List.take_take, Nat.min_eq_left (by omega), List.drop_take, hrun]
              congr 1
              exact List.take_left' (by simp)
            have h3 : aheadC a e = 6 := by
              unfold aheadC
              rw [if_neg (by omega)]
              exact g4 (e - 1) (by omega) (by omega)
            rw [h1, h3, List.append_assoc]
        cases h4 : decide (aheadC a i = 4) with
        | true =>
          have := key true (by rw [h4]; rfl)
          simp only [Option.bind_some] at this ⊢
          rw [← this, Option.bind_assoc]
          simp only [Option.bind_some, hwe]
        | false =>
          simp only [Option.bind_some]
          rw [hb2]
          have := key (nextEN (a.drop e)) (by rw [h4]; rfl)
          rw [← this]
          simp only [Option.bind_some, hwe, Option.bind_assoc]
          rfl
      · rw [if_pos h6, Option.bind_some]
        simp only
        rw [wne i (by omega), drop_e hia, w5S, if_neg (fun q => h6 q.1), here a i hia, ih (i + 1) a (by omega) (by omega) ha]
        have : aheadC a (i + 1) = a.getD i 0 := by unfold aheadC; rw [if_neg (by omega), Nat.add_sub_cancel]
        rw [this]
    · rw [if_neg (by omega), List.drop_eq_nil_of_le (by omega), List.take_of_length_le (by omega), w5S, List.append_nil]

theorem rW6_loop (p0 : List Int) (hl : p0.length ≤ 400000000) : ∀ (k i : Nat) (a : List Int), p0.length - i < k → i ≤ p0.length → a.length = p0.length →
    rW5_L4 N p0 k a (i : Int) = some (a.take i ++ w6S (a.drop i))
  | 0, _, _, h, _, _ => absurd h (Nat.not_lt_zero _)
  | k + 1, i, a, hk, hi, ha => by
    unfold rW5_L4
    by_cases h : i < p0.length
    · have hia : i < a.length := by omega
      rw [if_pos (by omega), ixe hia, Option.bind_some, drop_e hia, wne i (by omega)]
      have ih := fun a => rW6_loop p0 hl k (i + 1) a (by omega) (by omega)
      show _ = some (a.take i ++ ((if a.getD i 0 = 5 ∨ a.getD i 0 = 6 ∨ a.getD i 0 = 8 then 14 else a.getD i 0) :: w6S (a.drop (i + 1))))
      have turn : some ((a.set i 14).take (i + 1) ++ w6S ((a.set i 14).drop (i + 1))) = some (a.take i ++ (14 :: w6S (a.drop (i + 1)))) := by
        rw [there a i 14 hia, drop_set_ge a i 14]
      by_cases h5 : a.getD i 0 = 5
      · rw [if_pos h5, if_pos (.inl h5)]
        simp only [Option.bind_some]
        rw [setxe _ hia, Option.bind_some, ih _ (by simp [ha]), turn]
      · rw [if_neg h5, Option.bind_some]
        by_cases h6 : a.getD i 0 = 6
        · rw [if_pos h6, if_pos (.inr (.inl h6))]
          simp only [Option.bind_some]
          rw [setxe _ hia, Option.bind_some, ih _ (by simp [ha]), turn]
        · rw [if_neg h6]
          simp only [Option.bind_some]
          by_cases h8 : a.getD i 0 = 8
          · rw [if_pos h8, if_pos (.inr (.inr h8)), setxe _ hia, Option.bind_some, ih _ (by simp [ha]), turn]
          · rw [if_neg h8, if_neg (by omega), here a i hia]
            exact ih _ ha
    · rw [if_neg (by omega), List.drop_eq_nil_of_le (by omega), List.take_of_length_le (by omega)]
      simp [w6S]

theorem rW5_eq (l : List Int) (hl : l.length ≤ 400000000) (hN : l.length < N) : rW5 N l = some (w6S (w5S 0 l)) := by
  unfold rW5
  rw [show (0 : Int) = ((0 : Nat) : Int) from rfl, rW5_loop l hl hN N 0 l (by omega) (Nat.zero_le _) rfl]
  have h1 : l.take 0 ++ w5S (aheadC l 0) (l.drop 0) = w5S 0 l := by rw [List.take_zero, List.drop_zero]; rfl
  rw [h1, Option.bind_some, rW6_loop l hl N 0 _ (by omega) (Nat.zero_le _) (w5S_len l 0)]
  rfl

theorem rFilter_loop (p0 : List Int) (hl : p0.length ≤ 400000000) : ∀ (k i : Nat) (a : List Int), p0.length - i < k → i ≤ p0.length → a.length ≤ i →
    rWeak_L1 N p0 k a (i : Int) = some (a ++ noBN (p0.drop i))
  | 0, _, _, h, _, _ => absurd h (Nat.not_lt_zero _)
  | k + 1, i, a, hk, hi, ha => by
    unfold rWeak_L1
    by_cases h : i < p0.length
    · rw [if_pos (by omega), ixe h, Option.bind_some, wne i (by omega), drop_e h]
      have ih := fun a => rFilter_loop p0 hl k (i + 1) a (by omega) (by omega)
      by_cases h10 : p0.getD i 0 = 10
      · rw [if_neg (fun e => e h10), ih a (by omega)]
        unfold noBN
        rw [List.filter_cons, if_neg (by rw [h10]; decide)]
      · rw [if_pos h10, Option.bind_some, apx_to a _ (by simp; omega), Option.bind_some, ih _ (by simp; omega)]
        unfold noBN
        rw [List.filter_cons, if_pos (by simpa using h10), List.append_assoc]
        rfl
    · rw [if_neg (by omega), List.drop_eq_nil_of_le (by omega)]
      simp [noBN]

theorem rMerge_loop (p0 row : List Int) (hl : p0.length ≤ 400000000) : ∀ (k i j : Nat) (a : List Int), p0.length - i < k → i ≤ p0.length → a.length = i → j ≤ i → j + (noBN (p0.drop i)).length = row.length →
    rWeak_L2 N p0 row k a (j : Int) (i : Int) = some (a ++ mergeB (p0.drop i) (row.drop j))
  | 0, _, _, _, h, _, _, _, _ => absurd h (Nat.not_lt_zero _)
  | k + 1, i, j, a, hk, hi, ha, hj, hr => by
    unfold rWeak_L2
    by_cases h : i < p0.length
    · rw [if_pos (by omega), ixe h, Option.bind_some, wne i (by omega), drop_e h]
      have ih := fun j a => rMerge_loop p0 row hl k (i + 1) j a (by omega) (by omega)
      rw [drop_e h] at hr
      unfold noBN at hr
      rw [List.filter_cons] at hr
      by_cases h10 : p0.getD i 0 = 10
      · rw [if_neg (by rw [h10]; decide)] at hr
        rw [if_pos h10, h10, mergeB_bn, apx_to a _ (by simp; omega), Option.bind_some, ih j _ (by simp [ha]) (by omega) hr, List.append_assoc]
        rfl
      · rw [if_pos (by simpa using h10)] at hr
        rw [List.length_cons] at hr
        have hjr : j < row.length := by omega
        rw [if_neg h10, drop_e hjr, mergeB_no h10, ixe hjr, Option.bind_some, apx_to a _ (by simp; omega), Option.bind_some, wne j (by omega), ih (j + 1) _ (by simp [ha]) (by omega) (by unfold noBN; omega), List.append_assoc]
        rfl
    · rw [if_neg (by omega), List.drop_eq_nil_of_le (by omega)]
      simp [mergeB]

theorem rWeak_eq (l : List Int) (s : Int) (hl : l.length ≤ 400000000) (hN : l.length < N) : rWeak N l s = some (weakS l s) := by
  unfold rWeak
  have hn := noBN_len l
  rw [show (0 : Int) = ((0 : Nat) : Int) from rfl, rFilter_loop l hl N 0 [] (by omega) (Nat.zero_le _) (Nat.le_refl _), Option.bind_some, List.nil_append, List.drop_zero]
  have hs : (if s ≠ 2 then some (1 : Int) else some s) = some (sosS s) := by
    unfold sosS
    by_cases h : s = 2
    · rw [if_neg (fun e => e h), if_pos h, h]
    · rw [if_pos h, if_neg h]
  rw [hs]
  simp only [Option.bind_some]
  rw [rW1_eq _ _ (by omega) (by omega), Option.bind_some, rW2_eq _ _ (by rw [w1S_len]; omega) (by rw [w1S_len]; omega), Option.bind_some, rW4_eq _ (by rw [w3S_len, w2S_len, w1S_len]; omega) (by rw [w3S_len, w2S_len, w1S_len]; omega), Option.bind_some,
    rW5_eq _ (by rw [w4T_len, w3S_len, w2S_len, w1S_len]; omega) (by rw [w4T_len, w3S_len, w2S_len, w1S_len]; omega), Option.bind_some, rW7_eq _ _ (by rw [w6S_len, w5S_len, w4T_len, w3S_len, w2S_len, w1S_len]; omega) (by rw [w6S_len, w5S_len, w4T_len, w3S_len, w2S_len, w1S_len]; omega), Option.bind_some]
  have h := rMerge_loop (N := N) l (rowW (sosS s) (noBN l)) hl N 0 0 [] (by omega) (Nat.zero_le _) rfl (Nat.le_refl _) (by rw [List.drop_zero, rowW_len]; omega)
  rw [List.drop_zero, List.drop_zero, List.nil_append] at h
  unfold rowW at h
  rw [h]
  rfl
end
end Go.Proofs.Ytdpcaidhpccaiaa
