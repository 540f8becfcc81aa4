/-
  ResolveWeakCuts, ResolveCuts are true, by lists: an L or an R parts a row.
-/
import Derived.Test.YtdpcaidhpccaiaaS5
import Derived.Test.YtdpcaidhpccaiaaFWeakCuts
import Derived.Test.YtdpcaidhpccaiaaFCuts
namespace Go.Proofs.Ytdpcaidhpccaiaa
open Go Go.RowKit
set_option linter.unusedVariables false
set_option linter.unusedSectionVars false
set_option linter.unusedSimpArgs false

/-! ### a strong class parts a row -/
section
variable {c : Int} (hc : c = 1 ∨ c = 2)
include hc

theorem w1S_cut : ∀ (a : List Int) (s : Int) (b : List Int), w1S s (a ++ c :: b) = w1S s a ++ c :: w1S c b
  | [], s, b => by
    show w1S s (c :: b) = c :: w1S c b
    rw [w1S, if_neg (by omega), show isIso c = false from decide_eq_false (by omega)]
    rfl
  | x :: a, s, b => by
    rw [List.cons_append, w1S, w1S, w1S_cut a, List.cons_append]
theorem w2S_cut : ∀ (a : List Int) (s : Int) (b : List Int), w2S s (a ++ c :: b) = w2S s a ++ c :: w2S c b
  | [], s, b => by
    show w2S s (c :: b) = c :: w2S c b
    rw [w2S, if_neg (by omega), if_pos (by omega)]
  | x :: a, s, b => by
    rw [List.cons_append, w2S, w2S, w2S_cut a, List.cons_append]
theorem w3S_cut (a b : List Int) : w3S (a ++ c :: b) = w3S a ++ c :: w3S b := by
  unfold w3S
  rw [List.map_append, List.map_cons, if_neg (by omega)]
theorem w4S_of : ∀ (b : List Int), w4S c b = w4T b
  | [] => rfl
  | [x] => rfl
  | x :: d :: r => by
    rw [w4S, w4T]
    have : betw c x d = x := by unfold betw; rw [if_neg (by omega)]
    rw [this]
theorem w4S_cut : ∀ (a : List Int) (s : Int) (b : List Int), w4S s (a ++ c :: b) = w4S s a ++ c :: w4T b
  | [], s, [] => rfl
  | [], s, x :: b => by
    show w4S s (c :: x :: b) = c :: w4T (x :: b)
    have : betw s c x = c := by unfold betw; rw [if_neg (by omega)]
    rw [w4S, this, w4S_of hc]
  | [y], s, b => by
    show w4S s (y :: c :: b) = y :: c :: w4T b
    have : betw s y c = y := by unfold betw; rw [if_neg (by omega)]
    rw [w4S, this]
    have h := w4S_cut [] y b
    rw [List.nil_append] at h
    rw [h]
    rfl
  | y :: z :: a, s, b => by
    rw [List.cons_append, List.cons_append, w4S, w4S, ← List.cons_append, w4S_cut (z :: a), List.cons_append]
theorem w4T_cut (a b : List Int) : w4T (a ++ c :: b) = w4T a ++ c :: w4T b := by
  cases a with
  | nil =>
    show c :: w4S c b = c :: w4T b
    rw [w4S_of hc]
  | cons x a =>
    show x :: w4S x (a ++ c :: b) = x :: w4S x a ++ c :: w4T b
    rw [w4S_cut hc, List.cons_append]
theorem nextEN_cut : ∀ (a b : List Int), nextEN (a ++ c :: b) = nextEN a
  | [], b => by
    show nextEN (c :: b) = false
    rw [nextEN, if_neg (by omega), decide_eq_false (by omega)]
  | x :: a, b => by rw [List.cons_append, nextEN, nextEN, nextEN_cut a]
theorem w5S_zero : ∀ (b : List Int) (p : Int), p ≠ 4 → w5S p b = w5S 0 b
  | [], _, _ => rfl
  | x :: b, p, hp => by
    rw [w5S, w5S]
    have : (x = 6 ∧ (p = 4 ∨ nextEN b = true)) = (x = 6 ∧ ((0 : Int) = 4 ∨ nextEN b = true)) := by
      apply propext
      constructor
      · intro ⟨h1, h2⟩
        exact ⟨h1, h2.elim (fun e => absurd e hp) .inr⟩
      · intro ⟨h1, h2⟩
        exact ⟨h1, h2.elim (fun e => absurd e (by decide)) .inr⟩
    simp only [this]
theorem w5S_cut : ∀ (a : List Int) (s : Int) (b : List Int), w5S s (a ++ c :: b) = w5S s a ++ c :: w5S 0 b
  | [], s, b => by
    show w5S s (c :: b) = c :: w5S 0 b
    rw [w5S, if_neg (by omega), w5S_zero hc b c (by omega)]
  | x :: a, s, b => by
    rw [List.cons_append, w5S, w5S, w5S_cut a, List.cons_append, nextEN_cut hc]
theorem w6S_cut (a b : List Int) : w6S (a ++ c :: b) = w6S a ++ c :: w6S b := by
  unfold w6S
  rw [List.map_append, List.map_cons, if_neg (by omega)]
theorem w7S_cut : ∀ (a : List Int) (s : Int) (b : List Int), w7S s (a ++ c :: b) = w7S s a ++ c :: w7S c b
  | [], s, b => by
    show w7S s (c :: b) = c :: w7S c b
    rw [w7S, if_neg (by omega), if_pos (by omega)]
  | x :: a, s, b => by
    rw [List.cons_append, w7S, w7S, w7S_cut a, List.cons_append]
theorem rowW_cut (s : Int) (a b : List Int) : rowW s (a ++ c :: b) = rowW s a ++ c :: rowW c b := by
  unfold rowW
  rw [w1S_cut hc, w2S_cut hc, w3S_cut hc, w4T_cut hc, w5S_cut hc, w6S_cut hc, w7S_cut hc]
theorem sosS_of : sosS c = c := by
  unfold sosS
  split <;> omega
theorem noBN_cut (a b : List Int) : noBN (a ++ c :: b) = noBN a ++ c :: noBN b := by
  unfold noBN
  rw [List.filter_append, List.filter_cons, if_pos (by simp; omega)]
end
theorem mergeB_append : ∀ (l m r1 r2 : List Int), r1.length = (noBN l).length → mergeB (l ++ m) (r1 ++ r2) = mergeB l r1 ++ mergeB m r2
  | [], m, r1, r2, h => by
    have : r1 = [] := List.length_eq_zero_iff.mp h
    rw [this]; rfl
  | x :: l, m, r1, r2, h => by
    by_cases hx : x = 10
    · subst hx
      rw [List.cons_append, mergeB_bn, mergeB_bn, mergeB_append l m r1 r2 (by rw [h]; rfl), List.cons_append]
    · have e : noBN (x :: l) = x :: noBN l := by unfold noBN; rw [List.filter_cons, if_pos (by simpa using hx)]
      rw [e] at h
      cases r1 with
      | nil => simp at h
      | cons y r1 =>
        rw [List.cons_append, List.cons_append, mergeB_no hx, mergeB_no hx, mergeB_append l m r1 r2 (by simpa using h), List.cons_append]
theorem mergeB_cut {c : Int} (hc : c = 1 ∨ c = 2) (a b r1 r2 : List Int) (h : r1.length = (noBN a).length) : mergeB (a ++ c :: b) (r1 ++ c :: r2) = mergeB a r1 ++ c :: mergeB b r2 := by
  rw [mergeB_append _ _ _ _ h, mergeB_no (by omega)]
theorem weakS_cut {c : Int} (hc : c = 1 ∨ c = 2) (a b : List Int) (s : Int) : weakS (a ++ c :: b) s = weakS a s ++ c :: weakS b c := by
  unfold weakS
  rw [noBN_cut hc, rowW_cut hc, mergeB_cut hc _ _ _ _ (rowW_len _ _), sosS_of hc]

theorem fWeakCuts_N (N : Nat) (hN : 10000 ≤ N) (a b : List Int) (s : Int) (right : Bool) : fWeakCuts N a b s right = some true := by
  unfold fWeakCuts
  by_cases h : 1500 < a.length
  · rw [if_pos (by omega), kArabic_eq N (by omega)]
    rfl
  rw [if_neg (by omega)]
  by_cases h2 : 1500 < b.length
  · rw [if_pos (by omega), kArabic_eq N (by omega)]
    rfl
  rw [if_neg (by omega)]
  simp only [Option.bind_some]
  cases right with
  | false =>
    simp only [Option.bind_some]
    rw [kOwn_eq N a (by omega), Option.bind_some, apx_to a [1] (by simp; omega), Option.bind_some, pWeak_eq N a s (by omega) (by omega), Option.bind_some, kOwn_eq N _ (by rw [weakS_len]; omega), Option.bind_some, apx_to _ [1] (by rw [weakS_len]; simp; omega), Option.bind_some,
      apx_to _ b (by simp; omega), Option.bind_some, pWeak_eq N b 1 (by omega) (by omega), Option.bind_some, apx_to _ _ (by simp [weakS_len]; omega), Option.bind_some, pWeak_eq N _ s (by simp; omega) (by simp; omega), Option.bind_some]
    have e2 : weakS (a ++ [1] ++ b) s = weakS a s ++ [1] ++ weakS b 1 := by
      rw [List.append_assoc, List.append_assoc]
      exact weakS_cut (c := 1) (.inl rfl) a b s
    rw [e2, kIs_self N _ (by simp [weakS_len]; omega) (by simp [weakS_len]; omega), Option.bind_some]
    simp only
    rw [kArabic_eq N (by omega)]
    rfl
  | true =>
    simp only [Option.bind_some]
    rw [kOwn_eq N a (by omega), Option.bind_some, apx_to a [2] (by simp; omega), Option.bind_some, pWeak_eq N a s (by omega) (by omega), Option.bind_some, kOwn_eq N _ (by rw [weakS_len]; omega), Option.bind_some, apx_to _ [2] (by rw [weakS_len]; simp; omega), Option.bind_some,
      apx_to _ b (by simp; omega), Option.bind_some, pWeak_eq N b 2 (by omega) (by omega), Option.bind_some, apx_to _ _ (by simp [weakS_len]; omega), Option.bind_some, pWeak_eq N _ s (by simp; omega) (by simp; omega), Option.bind_some]
    have e2 : weakS (a ++ [2] ++ b) s = weakS a s ++ [2] ++ weakS b 2 := by
      rw [List.append_assoc, List.append_assoc]
      exact weakS_cut (c := 2) (.inr rfl) a b s
    rw [e2, kIs_self N _ (by simp [weakS_len]; omega) (by simp [weakS_len]; omega), Option.bind_some]
    simp only
    rw [kArabic_eq N (by omega)]
    rfl
theorem fWeakCuts_true (a b : List Int) (s : Int) (right : Bool) : ∃ N, fWeakCuts N a b s right = some true := ⟨10000, fWeakCuts_N 10000 (Nat.le_refl _) a b s right⟩

/-! ### neutral ones -/
theorem behindN_cut {c : Int} (hc : c = 1 ∨ c = 2) (eos : Int) : ∀ (a b : List Int), behindN eos (a ++ c :: b) = behindN c a
  | [], b => by
    show behindN eos (c :: b) = sosS c
    rw [behindN, show isNeu c = false from decide_eq_false (by omega), sosS_of hc]
    unfold dirC
    rcases hc with h | h <;> subst h <;> rfl
  | x :: a, b => by rw [List.cons_append, behindN, behindN, behindN_cut hc eos a b]
theorem nS_cut {c : Int} (hc : c = 1 ∨ c = 2) (side eos : Int) : ∀ (a : List Int) (s : Int) (b : List Int), nS side eos s (a ++ c :: b) = nS side c s a ++ c :: nS side eos c b
  | [], s, b => by
    show nS side eos s (c :: b) = c :: nS side eos c b
    have : dirC c = c := by rcases hc with h | h <;> subst h <;> rfl
    rw [nS, show isNeu c = false from decide_eq_false (by omega), if_neg (by decide), this]
  | x :: a, s, b => by
    rw [List.cons_append, nS, nS, nS_cut hc side eos a, nS_cut hc side eos a, behindN_cut hc]
    split <;> rfl
theorem neutralS_cut {c : Int} (hc : c = 1 ∨ c = 2) (a b : List Int) (v s e : Int) : neutralS (a ++ c :: b) v s e = neutralS a v s c ++ c :: neutralS b v c e := by
  unfold neutralS
  rw [noBN_cut hc, nS_cut hc, mergeB_cut hc _ _ _ _ (nS_len _ _ _ _), sosS_of hc]

/-- resolved ones stay -/
theorem nS_no (side eos : Int) : ∀ (l : List Int) (a : Int), (∀ x ∈ l, isNeu x = false) → nS side eos a l = l
  | [], _, _ => rfl
  | c :: r, a, h => by
    rw [nS, if_neg (by rw [h c (List.mem_cons_self ..)]; decide), nS_no side eos r _ (fun x hx => h x (List.mem_cons_of_mem _ hx))]
theorem dirC_any (c : Int) : dirC c = 0 ∨ dirC c = 1 ∨ dirC c = 2 := by
  unfold dirC
  split
  · exact .inr (.inl rfl)
  split
  · exact .inr (.inr rfl)
  · exact .inl rfl
theorem sosS_any (c : Int) : sosS c = 1 ∨ sosS c = 2 := by
  unfold sosS
  split
  · exact .inr rfl
  · exact .inl rfl
theorem behindN_any (eos : Int) : ∀ (l : List Int), behindN eos l = 0 ∨ behindN eos l = 1 ∨ behindN eos l = 2
  | [] => .inr (sosS_any eos)
  | c :: r => by
    rw [behindN]
    split
    · exact behindN_any eos r
    · exact dirC_any c
theorem dirN_any {side a b : Int} (hs : side = 1 ∨ side = 2) (ha : a = 0 ∨ a = 1 ∨ a = 2) : dirN side a b = 1 ∨ dirN side a b = 2 := by
  unfold dirN
  split <;> omega
theorem nS_all (side eos : Int) (hs : side = 1 ∨ side = 2) : ∀ (l : List Int) (a : Int), (a = 0 ∨ a = 1 ∨ a = 2) → (∀ x ∈ l, x ≠ 10) → ∀ x ∈ nS side eos a l, isNeu x = false ∧ x ≠ 10
  | [], _, _, _, x, hx => by cases hx
  | c :: r, a, ha, hl, x, hx => by
    rw [nS] at hx
    cases h : isNeu c with
    | true =>
      rw [h, if_pos rfl] at hx
      rcases List.mem_cons.mp hx with hx | hx
      · subst hx
        have := dirN_any (b := behindN eos r) hs ha
        exact ⟨decide_eq_false (by omega), by omega⟩
      · exact nS_all side eos hs r a ha (fun x hx => hl x (List.mem_cons_of_mem _ hx)) x hx
    | false =>
      rw [h, if_neg (by decide)] at hx
      rcases List.mem_cons.mp hx with hx | hx
      · subst hx
        exact ⟨h, hl x (List.mem_cons_self ..)⟩
      · exact nS_all side eos hs r _ (dirC_any c) (fun x hx => hl x (List.mem_cons_of_mem _ hx)) x hx
theorem noBN_mem (l : List Int) : ∀ x ∈ noBN l, x ≠ 10 := by
  intro x hx
  unfold noBN at hx
  simpa using (List.mem_filter.mp hx).2
theorem noBN_of (l : List Int) (h : ∀ x ∈ l, x ≠ 10) : noBN l = l := by
  unfold noBN
  exact List.filter_eq_self.mpr (fun x hx => by simpa using h x hx)
theorem noBN_merge : ∀ (l row : List Int), row.length = (noBN l).length → (∀ x ∈ row, x ≠ 10) → noBN (mergeB l row) = row
  | [], row, h, _ => by
    have : row = [] := List.length_eq_zero_iff.mp h
    rw [this]; rfl
  | x :: l, row, h, hr => by
    by_cases hx : x = 10
    · subst hx
      rw [mergeB_bn]
      exact noBN_merge l row (by rw [h]; rfl) hr
    · have e : noBN (x :: l) = x :: noBN l := by unfold noBN; rw [List.filter_cons, if_pos (by simpa using hx)]
      rw [e] at h
      cases row with
      | nil => simp at h
      | cons y row =>
        have hy := hr y (List.mem_cons_self ..)
        have ih := noBN_merge l row (by simpa using h) (fun x hx => hr x (List.mem_cons_of_mem _ hx))
        rw [mergeB_no hx]
        unfold noBN at ih ⊢
        rw [List.filter_cons, if_pos (by simpa using hy), ih]
theorem merge_merge : ∀ (l row r2 : List Int), row.length = (noBN l).length → (∀ x ∈ row, x ≠ 10) → mergeB (mergeB l row) r2 = mergeB l r2
  | [], row, r2, h, _ => rfl
  | x :: l, row, r2, h, hr => by
    by_cases hx : x = 10
    · subst hx
      rw [mergeB_bn, mergeB_bn, mergeB_bn, merge_merge l row r2 (by rw [h]; rfl) hr]
    · have e : noBN (x :: l) = x :: noBN l := by unfold noBN; rw [List.filter_cons, if_pos (by simpa using hx)]
      rw [e] at h
      cases row with
      | nil => simp at h
      | cons y row =>
        have hy := hr y (List.mem_cons_self ..)
        have ih := fun r2 => merge_merge l row r2 (by simpa using h) (fun x hx => hr x (List.mem_cons_of_mem _ hx))
        rw [mergeB_no hx]
        cases r2 with
        | nil =>
          show (if y = 10 then _ else _ : List Int) = (if x = 10 then _ else _)
          rw [if_neg hx, if_neg hy]
        | cons z r2 => rw [mergeB_no hy, mergeB_no hx, ih]
theorem sideL_any (v : Int) : sideL v = 1 ∨ sideL v = 2 := by
  unfold sideL
  split
  · exact .inr rfl
  · exact .inl rfl
theorem neutralS_twice (l : List Int) (v s e : Int) : neutralS (neutralS l v s e) v s e = neutralS l v s e := by
  have hs := sideL_any v
  have h := nS_all (sideL v) e hs (noBN l) (sosS s) (.inr (sosS_any s)) (noBN_mem l)
  have hl := nS_len (sideL v) e (noBN l) (sosS s)
  unfold neutralS
  rw [noBN_merge _ _ hl (fun x hx => (h x hx).2), nS_no _ _ _ _ (fun x hx => (h x hx).1), merge_merge _ _ _ hl (fun x hx => (h x hx).2)]

theorem fCuts_N (N : Nat) (hN : 10000 ≤ N) (a b : List Int) (right : Bool) (v s e : Int) (hv : 0 ≤ v) : fCuts N a b right v s e = some true := by
  unfold fCuts
  by_cases h : 1500 < a.length
  · rw [if_pos (by omega), kWorks_eq N (by omega)]
    rfl
  rw [if_neg (by omega)]
  by_cases h2 : 1500 < b.length
  · rw [if_pos (by omega), kWorks_eq N (by omega)]
    rfl
  rw [if_neg (by omega)]
  simp only [Option.bind_some]
  cases right with
  | false =>
    simp only [Option.bind_some]
    rw [kOwn_eq N a (by omega), Option.bind_some, apx_to a [1] (by simp; omega), Option.bind_some, pNeutral_eq N a v s 1 hv (by omega) (by omega), Option.bind_some, kOwn_eq N _ (by rw [neutralS_len]; omega), Option.bind_some, apx_to _ [1] (by rw [neutralS_len]; simp; omega), Option.bind_some,
      apx_to _ b (by simp; omega), Option.bind_some, pNeutral_eq N b v 1 e hv (by omega) (by omega), Option.bind_some, apx_to _ _ (by simp [neutralS_len]; omega), Option.bind_some, pNeutral_eq N _ v s e hv (by simp; omega) (by simp; omega), Option.bind_some]
    have e2 : neutralS (a ++ [1] ++ b) v s e = neutralS a v s 1 ++ [1] ++ neutralS b v 1 e := by
      rw [List.append_assoc, List.append_assoc]
      exact neutralS_cut (c := 1) (.inl rfl) a b v s e
    have e3 := neutralS_twice (a ++ [1] ++ b) v s e
    rw [e2] at e3
    rw [e2, kIs_self N _ (by simp [neutralS_len]; omega) (by simp [neutralS_len]; omega), Option.bind_some]
    simp only
    rw [pNeutral_eq N _ v s e hv (by simp [neutralS_len]; omega) (by simp [neutralS_len]; omega), Option.bind_some, e3, kIs_self N _ (by simp [neutralS_len]; omega) (by simp [neutralS_len]; omega), Option.bind_some]
    simp only
    rw [kWorks_eq N (by omega)]
    rfl
  | true =>
    simp only [Option.bind_some]
    rw [kOwn_eq N a (by omega), Option.bind_some, apx_to a [2] (by simp; omega), Option.bind_some, pNeutral_eq N a v s 2 hv (by omega) (by omega), Option.bind_some, kOwn_eq N _ (by rw [neutralS_len]; omega), Option.bind_some, apx_to _ [2] (by rw [neutralS_len]; simp; omega), Option.bind_some,
      apx_to _ b (by simp; omega), Option.bind_some, pNeutral_eq N b v 2 e hv (by omega) (by omega), Option.bind_some, apx_to _ _ (by simp [neutralS_len]; omega), Option.bind_some, pNeutral_eq N _ v s e hv (by simp; omega) (by simp; omega), Option.bind_some]
    have e2 : neutralS (a ++ [2] ++ b) v s e = neutralS a v s 2 ++ [2] ++ neutralS b v 2 e := by
      rw [List.append_assoc, List.append_assoc]
      exact neutralS_cut (c := 2) (.inr rfl) a b v s e
    have e3 := neutralS_twice (a ++ [2] ++ b) v s e
    rw [e2] at e3
    rw [e2, kIs_self N _ (by simp [neutralS_len]; omega) (by simp [neutralS_len]; omega), Option.bind_some]
    simp only
    rw [pNeutral_eq N _ v s e hv (by simp [neutralS_len]; omega) (by simp [neutralS_len]; omega), Option.bind_some, e3, kIs_self N _ (by simp [neutralS_len]; omega) (by simp [neutralS_len]; omega), Option.bind_some]
    simp only
    rw [kWorks_eq N (by omega)]
    rfl
theorem fCuts_true (a b : List Int) (right : Bool) (v s e : Int) (hv : 0 ≤ v) : ∃ N, fCuts N a b right v s e = some true := ⟨10000, fCuts_N 10000 (Nat.le_refl _) a b right v s e hv⟩
end Go.Proofs.Ytdpcaidhpccaiaa
