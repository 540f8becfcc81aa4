/-
  ResolveWeakAgain is true, by lists: what is resolved stays.
-/
import Derived.Test.YtdpcaidhpccaiaaS7
namespace Go.Proofs.Ytdpcaidhpccaiaa
open Go Go.RowKit
set_option linter.unusedVariables false
set_option linter.unusedSectionVars false
set_option linter.unusedSimpArgs false

/-! ### what holds of all -/
section
variable (P : Int → Prop)
theorem w1S_all : ∀ (l : List Int) (b : Int), (∀ x ∈ l, P x ∨ x = 9) → P b → P 14 → ∀ x ∈ w1S b l, P x
  | [], _, _, _, _, x, hx => by cases hx
  | c :: r, b, h, hb, h14, x, hx => by
    have h0 := h c (List.mem_cons_self ..)
    have hn : P (if c = 9 then b else c) := by
      by_cases h9 : c = 9
      · rw [if_pos h9]; exact hb
      · rw [if_neg h9]; exact h0.elim id (fun e => absurd e h9)
    rw [w1S] at hx
    rcases List.mem_cons.mp hx with hx | hx
    · rw [hx]; exact hn
    · refine w1S_all r _ (fun x hx => h x (List.mem_cons_of_mem _ hx)) ?_ h14 x hx
      by_cases hi : isIso (if c = 9 then b else c) = true
      · rw [if_pos hi]; exact h14
      · rw [if_neg hi]; exact hn
theorem w2S_all (h7 : P 7) : ∀ (l : List Int) (b : Int), (∀ x ∈ l, P x) → ∀ x ∈ w2S b l, P x
  | [], _, _, x, hx => by cases hx
  | c :: r, b, h, x, hx => by
    rw [w2S] at hx
    rcases List.mem_cons.mp hx with hx | hx
    · rw [hx]
      split
      · exact h7
      · exact h c (List.mem_cons_self ..)
    · exact w2S_all h7 r _ (fun x hx => h x (List.mem_cons_of_mem _ hx)) x hx
theorem w4S_all (h4 : P 4) (h7 : P 7) : ∀ (l : List Int) (b : Int), (∀ x ∈ l, P x) → ∀ x ∈ w4S b l, P x
  | [], _, _, x, hx => by cases hx
  | [c], _, h, x, hx => h x hx
  | c :: d :: r, b, h, x, hx => by
    rw [w4S] at hx
    rcases List.mem_cons.mp hx with hx | hx
    · rw [hx]
      unfold betw
      split
      · rename_i e
        rcases e.2 with e | e
        · rw [e.1]; exact h4
        · rw [e.1]; exact h7
      · exact h c (List.mem_cons_self ..)
    · exact w4S_all h4 h7 (d :: r) _ (fun x hx => h x (List.mem_cons_of_mem _ hx)) x hx
theorem w4T_all (h4 : P 4) (h7 : P 7) (l : List Int) (h : ∀ x ∈ l, P x) : ∀ x ∈ w4T l, P x := by
  cases l with
  | nil => intro x hx; cases hx
  | cons c r =>
    intro x hx
    rw [w4T] at hx
    rcases List.mem_cons.mp hx with hx | hx
    · rw [hx]; exact h c (List.mem_cons_self ..)
    · exact w4S_all P h4 h7 r _ (fun x hx => h x (List.mem_cons_of_mem _ hx)) x hx
theorem w5S_all (h4 : P 4) : ∀ (l : List Int) (b : Int), (∀ x ∈ l, P x) → ∀ x ∈ w5S b l, P x
  | [], _, _, x, hx => by cases hx
  | c :: r, b, h, x, hx => by
    rw [w5S] at hx
    rcases List.mem_cons.mp hx with hx | hx
    · rw [hx]
      split
      · exact h4
      · exact h c (List.mem_cons_self ..)
    · exact w5S_all h4 r _ (fun x hx => h x (List.mem_cons_of_mem _ hx)) x hx
theorem w7S_all (h1 : P 1) : ∀ (l : List Int) (b : Int), (∀ x ∈ l, P x) → ∀ x ∈ w7S b l, P x
  | [], _, _, x, hx => by cases hx
  | c :: r, b, h, x, hx => by
    rw [w7S] at hx
    rcases List.mem_cons.mp hx with hx | hx
    · rw [hx]
      split
      · exact h1
      · exact h c (List.mem_cons_self ..)
    · exact w7S_all h1 r _ (fun x hx => h x (List.mem_cons_of_mem _ hx)) x hx
end

/-- what is left of the rules -/
def LeftW (x : Int) : Prop := x ≠ 3 ∧ x ≠ 5 ∧ x ≠ 6 ∧ x ≠ 8 ∧ x ≠ 9 ∧ x ≠ 10
theorem six_left (s : Int) (hs : s = 1 ∨ s = 2) (l : List Int) (h : ∀ x ∈ l, x ≠ 10) : ∀ x ∈ w6S (w5S 0 (w4T (w3S (w2S s (w1S s l))))), LeftW x := by
  have h1 := w1S_all (fun x => x ≠ 9 ∧ x ≠ 10) l s (fun x hx => by
    have := h x hx
    by_cases h9 : x = 9
    · exact .inr h9
    · exact .inl ⟨h9, this⟩) (by omega) (by decide)
  have h2 := w2S_all (fun x => x ≠ 9 ∧ x ≠ 10) (by decide) _ s h1
  have h3 : ∀ x ∈ w3S (w2S s (w1S s l)), x ≠ 3 ∧ x ≠ 9 ∧ x ≠ 10 := by
    intro x hx
    obtain ⟨y, hy, e⟩ := List.mem_map.mp hx
    have := h2 y hy
    rw [← e]
    split <;> omega
  have h4 := w4T_all (fun x => x ≠ 3 ∧ x ≠ 9 ∧ x ≠ 10) (by decide) (by decide) _ h3
  have h5 := w5S_all (fun x => x ≠ 3 ∧ x ≠ 9 ∧ x ≠ 10) (by decide) _ 0 h4
  intro x hx
  obtain ⟨y, hy, e⟩ := List.mem_map.mp hx
  have := h5 y hy
  rw [← e]
  unfold LeftW
  split <;> omega
theorem row_left (s : Int) (hs : s = 1 ∨ s = 2) (l : List Int) (h : ∀ x ∈ l, x ≠ 10) : ∀ x ∈ rowW s l, LeftW x :=
  w7S_all LeftW (by unfold LeftW; decide) _ s (six_left s hs l h)

/-! ### what stays -/
theorem w1S_id : ∀ (l : List Int) (b : Int), (∀ x ∈ l, LeftW x) → w1S b l = l
  | [], _, _ => rfl
  | c :: r, b, h => by
    have h0 := h c (List.mem_cons_self ..)
    unfold LeftW at h0
    rw [w1S, if_neg (by omega), w1S_id r _ (fun x hx => h x (List.mem_cons_of_mem _ hx))]
theorem w2S_id : ∀ (l : List Int) (b : Int), (∀ x ∈ l, LeftW x) → b ≠ 3 → w2S b l = l
  | [], _, _, _ => rfl
  | c :: r, b, h, hb => by
    have h0 := h c (List.mem_cons_self ..)
    unfold LeftW at h0
    rw [w2S, if_neg (by omega), w2S_id r _ (fun x hx => h x (List.mem_cons_of_mem _ hx)) (by split <;> omega)]
theorem map_id_of (f : Int → Int) : ∀ (l : List Int), (∀ x ∈ l, f x = x) → l.map f = l
  | [], _ => rfl
  | c :: r, h => by rw [List.map_cons, h c (List.mem_cons_self ..), map_id_of f r (fun x hx => h x (List.mem_cons_of_mem _ hx))]
theorem w3S_id (l : List Int) (h : ∀ x ∈ l, LeftW x) : w3S l = l := map_id_of _ l (fun x hx => by
  have h0 := h x hx
  unfold LeftW at h0
  rw [if_neg (by omega)])
theorem w4S_id : ∀ (l : List Int) (b : Int), (∀ x ∈ l, LeftW x) → w4S b l = l
  | [], _, _ => rfl
  | [c], _, _ => rfl
  | c :: d :: r, b, h => by
    have h0 := h c (List.mem_cons_self ..)
    unfold LeftW at h0
    have : betw b c d = c := by unfold betw; rw [if_neg (by omega)]
    rw [w4S, this, w4S_id (d :: r) _ (fun x hx => h x (List.mem_cons_of_mem _ hx))]
theorem w4T_id (l : List Int) (h : ∀ x ∈ l, LeftW x) : w4T l = l := by
  cases l with
  | nil => rfl
  | cons c r => rw [w4T, w4S_id r _ (fun x hx => h x (List.mem_cons_of_mem _ hx))]
theorem w5S_id : ∀ (l : List Int) (b : Int), (∀ x ∈ l, LeftW x) → w5S b l = l
  | [], _, _ => rfl
  | c :: r, b, h => by
    have h0 := h c (List.mem_cons_self ..)
    unfold LeftW at h0
    rw [w5S, if_neg (by omega), w5S_id r _ (fun x hx => h x (List.mem_cons_of_mem _ hx))]
theorem w6S_id (l : List Int) (h : ∀ x ∈ l, LeftW x) : w6S l = l := map_id_of _ l (fun x hx => by
  have h0 := h x hx
  unfold LeftW at h0
  rw [if_neg (by omega)])
theorem w7S_twice : ∀ (l : List Int) (s : Int), w7S s (w7S s l) = w7S s l
  | [], _ => rfl
  | c :: r, s => by
    rw [w7S]
    by_cases h : c = 4 ∧ s = 1
    · obtain ⟨rfl, rfl⟩ := h
      rw [if_pos ⟨rfl, rfl⟩, if_neg (by decide), w7S, if_neg (by decide), if_pos (.inl rfl), w7S_twice r]
    · rw [if_neg h, w7S, if_neg h, w7S_twice r]
theorem w7S_id : ∀ (l : List Int) (s : Int), (∀ x ∈ l, x ≠ 4) → w7S s l = l
  | [], _, _ => rfl
  | c :: r, s, h => by
    have h0 := h c (List.mem_cons_self ..)
    rw [w7S, if_neg (by omega), w7S_id r _ (fun x hx => h x (List.mem_cons_of_mem _ hx))]
theorem rowW_of (s : Int) (hs : s = 1 ∨ s = 2) (l : List Int) (h : ∀ x ∈ l, LeftW x) : rowW s l = w7S s l := by
  unfold rowW
  rw [w1S_id l s h, w2S_id l s h (by omega), w3S_id l h, w4T_id l h, w5S_id l 0 h, w6S_id l h]
theorem rowW_twice (s : Int) (hs : s = 1 ∨ s = 2) (l : List Int) (h : ∀ x ∈ l, x ≠ 10) : rowW s (rowW s l) = rowW s l := by
  rw [rowW_of s hs _ (row_left s hs l h)]
  exact w7S_twice _ s
theorem weakS_twice (l : List Int) (s : Int) : weakS (weakS l s) s = weakS l s := by
  have hs := sosS_any s
  have h := row_left (sosS s) hs (noBN l) (noBN_mem l)
  have h10 : ∀ x ∈ rowW (sosS s) (noBN l), x ≠ 10 := fun x hx => by
    have := h x hx
    unfold LeftW at this
    omega
  have hl := rowW_len (sosS s) (noBN l)
  unfold weakS
  rw [noBN_merge _ _ hl h10, rowW_twice _ hs _ (noBN_mem l), merge_merge _ _ _ hl h10]
theorem mergeB_self : ∀ (l : List Int), (∀ x ∈ l, x ≠ 10) → mergeB l l = l
  | [], _ => rfl
  | c :: r, h => by rw [mergeB_no (h c (List.mem_cons_self ..)), mergeB_self r (fun x hx => h x (List.mem_cons_of_mem _ hx))]

/-- what is as it was -/
def plainW (c : Int) : Bool := decide (c = 1 ∨ c = 2 ∨ c = 7 ∨ 11 ≤ c ∧ c ≤ 14)
theorem weakS_plain (l : List Int) (s : Int) (h : ∀ x ∈ l, plainW x = true) : weakS l s = l := by
  have h2 : ∀ x ∈ l, LeftW x := fun x hx => by
    have := of_decide_eq_true (h x hx)
    unfold LeftW
    omega
  have h4 : ∀ x ∈ l, x ≠ 4 := fun x hx => by
    have := of_decide_eq_true (h x hx)
    omega
  have h10 : ∀ x ∈ l, x ≠ 10 := fun x hx => by
    have := of_decide_eq_true (h x hx)
    omega
  unfold weakS
  rw [noBN_of l h10, rowW_of _ (sosS_any s) l h2, w7S_id l _ h4, mergeB_self l h10]

theorem fWeakAgain_loop (N : Nat) (p0 : List Int) (hp : p0.length ≤ 3000) : ∀ (k i : Nat) (a : List Int), p0.length - i < k → i ≤ p0.length → a.length ≤ i →
    fWeakAgain_L1 N p0 k a (i : Int) = some (a ++ (p0.drop i).filter plainW)
  | 0, _, _, h, _, _ => absurd h (Nat.not_lt_zero _)
  | k + 1, i, a, hk, hi, ha => by
    unfold fWeakAgain_L1
    by_cases h : i < p0.length
    · rw [if_pos (by omega), ixe h, drop_e h, wne i (by omega), List.filter_cons]
      have ih := fun a => fWeakAgain_loop N p0 hp k (i + 1) a (by omega) (by omega)
      generalize p0.getD i 0 = c
      have yes : plainW c = true → ((apx a [c]).bind fun l98 => fWeakAgain_L1 N p0 k l98 ((i + 1 : Nat) : Int)) = some (a ++ (if plainW c = true then c :: (p0.drop (i + 1)).filter plainW else (p0.drop (i + 1)).filter plainW)) := by
        intro e
        rw [if_pos e, apx_to a _ (by simp; omega), Option.bind_some, ih _ (by simp; omega), List.append_assoc]
        rfl
      have no : plainW c = false → fWeakAgain_L1 N p0 k a ((i + 1 : Nat) : Int) = some (a ++ (if plainW c = true then c :: (p0.drop (i + 1)).filter plainW else (p0.drop (i + 1)).filter plainW)) := by
        intro e
        rw [if_neg (by rw [e]; decide), ih _ (by omega)]
      simp only [Option.bind_some]
      by_cases h1 : c = 1
      · simp only [if_pos h1, Option.bind_some]
        exact yes (decide_eq_true (by omega))
      simp only [if_neg h1, Option.bind_some]
      by_cases h2 : c = 2
      · simp only [if_pos h2, Option.bind_some]
        exact yes (decide_eq_true (by omega))
      simp only [if_neg h2, Option.bind_some]
      by_cases h3 : c = 7
      · simp only [if_pos h3, Option.bind_some]
        exact yes (decide_eq_true (by omega))
      simp only [if_neg h3, Option.bind_some]
      by_cases h4 : c ≥ 11
      · simp only [if_pos h4, Option.bind_some]
        by_cases h5 : c ≤ 14
        · simp only [if_pos h5, Option.bind_some]
          exact yes (decide_eq_true (by omega))
        · simp only [if_neg h5, Option.bind_some]
          exact no (decide_eq_false (by omega))
      · simp only [if_neg h4, Option.bind_some]
        exact no (decide_eq_false (by omega))
    · rw [if_neg (by omega), List.drop_eq_nil_of_le (by omega)]
      simp

theorem fWeakAgain_N (N : Nat) (hN : 10000 ≤ N) (l : List Int) (s : Int) : fWeakAgain N l s = some true := by
  unfold fWeakAgain
  by_cases h : 3000 < l.length
  · rw [if_pos (by omega), kArabic_eq N (by omega)]
    rfl
  have hf := List.length_filter_le plainW l
  have h1 := fWeakAgain_loop N l (by omega) N 0 [] (by omega) (Nat.zero_le _) (Nat.le_refl _)
  rw [List.drop_zero, List.nil_append, show ((0 : Nat) : Int) = 0 from rfl] at h1
  rw [if_neg (by omega), pWeak_eq N l s (by omega) (by omega), Option.bind_some, h1, Option.bind_some, pWeak_eq N _ s (by rw [weakS_len]; omega) (by rw [weakS_len]; omega), Option.bind_some, weakS_twice, kIs_self N _ (by rw [weakS_len]; omega) (by rw [weakS_len]; omega), Option.bind_some]
  simp only
  rw [pWeak_eq N _ s (by omega) (by omega), Option.bind_some, weakS_plain _ s (fun x hx => (List.mem_filter.mp hx).2), kIs_self N _ (by omega) (by omega), Option.bind_some]
  simp only
  rw [kArabic_eq N (by omega)]
  rfl
theorem fWeakAgain_true (l : List Int) (s : Int) : ∃ N, fWeakAgain N l s = some true := ⟨10000, fWeakAgain_N 10000 (Nat.le_refl _) l s⟩
end Go.Proofs.Ytdpcaidhpccaiaa
