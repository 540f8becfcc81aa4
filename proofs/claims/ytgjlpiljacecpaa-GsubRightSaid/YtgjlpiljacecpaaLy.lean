/-
  One feature: the program's and the document's, by lists.
-/
import Derived.Test.YtgjlpiljacecpaaLq
import Derived.Test.YtgjlpiljacecpaaLx
namespace Go.Proofs.Ytgjlpiljacecpaa
open Go Go.RowKit
set_option linter.unusedVariables false
set_option linter.unusedSectionVars false
set_option linter.unusedSimpArgs false
def mxW : Nat := 65536
theorem mxW_eq : mxW = 65536 := rfl
attribute [irreducible] mxW
def kF (b : List Int) (t : Int) : Int := rdv b (t + 2)
def wF (b : List Int) (t : Int) : List Int := wds b (t + 4) (kF b t).toNat
def okF (b : List Int) (t : Int) : Bool := hasB b (t + 2) 1 2 && (hasB b (t + 4) (kF b t) 2 && (hasB b t 1 2 && decide (rdv b t = 0)))
def resF (b : List Int) (t p2 : Int) : Option (List Int) := if okF b t = true ∧ ∀ x ∈ wF b t, x < p2 then some (upL (wF b t) mxW) else none
theorem feat_L1 (N : Nat) (p2 : Int) (q : Bool) (l : List Int) (hl : l.length ≤ 1000000) (hU : U16 l) : ∀ (k i : Nat) (acc : List Int), l.length - i < k → i ≤ l.length → acc.length ≤ i →
    qFeat_L1 N p2 q l k 0 0 0 0 [] acc (i : Int) = some (if (l.drop i).all (fun x => decide (x < p2)) = true then Ctl.go (0, 0, 0, 0, [], acc ++ l.drop i) else Ctl.ret (0, 0, 0, 0, [], false, q))
  | 0, _, _, h, _, _ => absurd h (Nat.not_lt_zero _)
  | k + 1, i, acc, hk, hi, ha => by
    unfold qFeat_L1
    by_cases h : i < l.length
    · have hu := hU.at i
      have hd : l.drop i = l.getD i 0 :: l.drop (i + 1) := by rw [List.drop_eq_getElem_cons h, List.getD_eq_getElem?_getD, List.getElem?_eq_getElem h]; rfl
      rw [if_pos (by omega), zix h, Option.bind_some, zw64 (x := l.getD i 0) (by omega) (by omega), hd, List.all_cons]
      by_cases hp : l.getD i 0 ≥ p2
      · rw [if_pos hp, if_neg (by rw [decide_eq_false (by omega)]; simp)]
      · rw [if_neg hp, apx_eq (by show acc.length + 1 ≤ _; omega), Option.bind_some, zwp i (by omega), feat_L1 N p2 q l hl hU k (i + 1) _ (by omega) (by omega) (by rw [List.length_append]; show acc.length + 1 ≤ _; omega), decide_eq_true (by omega : l.getD i 0 < p2), Bool.true_and, List.append_assoc]
        rfl
    · rw [if_neg (by omega), List.drop_eq_nil_of_le (by omega), List.append_nil]
      rfl
theorem feat_eq (N : Nat) (b : List Int) (q : Bool) (t p2 : Int) (hU : U8 b) (hb : b.length ≤ 1000000) (ht : 0 ≤ t ∧ t ≤ 1000000) (hN : 1000000 < N) :
    (∀ r, q = false → resF b t p2 = some r → qFeat N b q t p2 = some (0, 0, 0, 0, r, true, false)) ∧ ((q = true ∨ resF b t p2 = none) → ∃ q', qFeat N b q t p2 = some (0, 0, 0, 0, [], false, q')) := by
  have hk : 0 ≤ kF b t ∧ kF b t ≤ 65535 := rdv_in hU _
  have e1 : qWord N b q (t + 2) = some (kF b t, q || !hasB b (t + 2) 1 2) := word_eq N b q (t + 2) hU (by omega)
  have e2 := words_eq N b (q || !hasB b (t + 2) 1 2) (t + 4) (kF b t) hU (by omega) (by omega)
  have e3 := word_eq N b (q || !hasB b (t + 2) 1 2 || !hasB b (t + 4) (kF b t) 2) t hU (by omega)
  have main : qFeat N b q t p2 = (if rdv b t ≠ 0 ∨ (q || !hasB b (t + 2) 1 2 || !hasB b (t + 4) (kF b t) 2 || !hasB b t 1 2) = true then some (0, 0, 0, 0, [], false, q || !hasB b (t + 2) 1 2 || !hasB b (t + 4) (kF b t) 2 || !hasB b t 1 2) else
      (if ∀ x ∈ (if hasB b (t + 4) (kF b t) 2 = true then wds b (t + 4) (kF b t).toNat else []), x < p2 then some (0, 0, 0, 0, upL (if hasB b (t + 4) (kF b t) 2 = true then wds b (t + 4) (kF b t).toNat else []) mxW, true, false) else some (0, 0, 0, 0, [], false, false))) := by
    unfold qFeat
    rw [zw64 (x := t + 2) (by omega) (by omega), zw64 (x := t + 4) (by omega) (by omega), e1, Option.bind_some]
    simp only
    rw [zw64 (x := kF b t) (by omega) (by omega), e2, Option.bind_some]
    simp only
    rw [e3, Option.bind_some]
    simp only
    have hWU : U16 (if hasB b (t + 4) (kF b t) 2 = true then wds b (t + 4) (kF b t).toNat else []) := by
      split
      · exact wds_u16 hU _ _
      · intro x hx; cases hx
    have hWl : (if hasB b (t + 4) (kF b t) 2 = true then wds b (t + 4) (kF b t).toNat else []).length ≤ 65535 := by
      split
      · rw [wds_len]; omega
      · exact Nat.zero_le _
    generalize (if hasB b (t + 4) (kF b t) 2 = true then wds b (t + 4) (kF b t).toNat else []) = W at hWU hWl ⊢
    generalize (q || !hasB b (t + 2) 1 2 || !hasB b (t + 4) (kF b t) 2 || !hasB b t 1 2) = q3
    by_cases h0 : rdv b t ≠ 0
    · rw [if_pos h0, if_pos (.inl h0)]; rfl
    rw [if_neg h0]
    cases q3 with
    | true => rw [if_pos (.inr rfl)]; rfl
    | false =>
      rw [if_neg (by rintro (h | h); exact h0 h; cases h)]
      show ((zSort N W).bind _) = _
      rw [sort_eq N W (by omega) (by omega), Option.bind_some]
      show (((zCompact N (W.mergeSort fun x y => decide (x ≤ y))).bind _).bind _) = _
      have hmem : ∀ x, x ∈ cpt (W.mergeSort fun x y => decide (x ≤ y)) ↔ x ∈ W := fun x => by rw [cpt_mem, List.mem_mergeSort]
      have hr := rise_eq W mxW (fun x hx => by have := hWU x hx; have := mxW_eq; omega)
      have hmem' : ∀ x, x ∈ upL W mxW ↔ x ∈ W := fun x => by rw [← hr]; exact hmem x
      have hcl : (cpt (W.mergeSort fun x y => decide (x ≤ y))).length ≤ 65535 := by
        have := cpt_le (W.mergeSort fun x y => decide (x ≤ y))
        rw [List.length_mergeSort] at this
        omega
      unfold zCompact
      rw [hr] at hcl
      rw [Option.bind_some, hr]
      have hL := feat_L1 N p2 false (upL W mxW) (by omega) (fun x hx => hWU x ((hmem' x).1 hx)) N 0 [] (by omega) (Nat.zero_le _) (Nat.le_refl _)
      rw [List.drop_zero, List.nil_append] at hL
      have hL' : qFeat_L1 N p2 false (upL W mxW) N 0 0 0 0 [] [] 0 = _ := hL
      rw [hL']
      by_cases hall : ∀ x ∈ W, x < p2
      · rw [if_pos hall, if_pos (List.all_eq_true.2 fun x hx => decide_eq_true (hall x ((hmem' x).1 hx)))]; rfl
      · rw [if_neg hall, if_neg (fun h => hall fun x hx => of_decide_eq_true (List.all_eq_true.1 h x ((hmem' x).2 hx)))]; rfl
  unfold resF okF
  rw [main]
  constructor
  · rintro r rfl h
    split at h
    · rename_i hc
      injection h with h
      simp only [Bool.and_eq_true, decide_eq_true_eq] at hc
      obtain ⟨⟨a1, a2, a3, a4⟩, a5⟩ := hc
      rw [a1, a2, a3]
      rw [if_neg (by rintro (h | h); exact h a4; simp at h), if_pos rfl, if_pos (show ∀ x ∈ wds b (t + 4) (kF b t).toNat, x < p2 from a5), ← h]
      rfl
    · cases h
  · intro h
    by_cases h1 : rdv b t ≠ 0 ∨ (q || !hasB b (t + 2) 1 2 || !hasB b (t + 4) (kF b t) 2 || !hasB b t 1 2) = true
    · rw [if_pos h1]; exact ⟨_, rfl⟩
    · rw [if_neg h1]
      simp only [not_or, Bool.or_eq_true, Bool.not_eq_true', ne_eq, Decidable.not_not] at h1
      obtain ⟨a4, ⟨⟨a0, a1⟩, a2⟩, a3⟩ := h1
      have a1 : hasB b (t + 2) 1 2 = true := by simpa using a1
      have a2 : hasB b (t + 4) (kF b t) 2 = true := by simpa using a2
      have a3 : hasB b t 1 2 = true := by simpa using a3
      rw [if_pos a2]
      by_cases hall : ∀ x ∈ wds b (t + 4) (kF b t).toNat, x < p2
      · exfalso
        rcases h with h | h
        · exact a0 h
        · rw [if_pos ⟨by rw [a1, a2, a3, decide_eq_true a4]; rfl, hall⟩] at h; cases h
      · rw [if_neg hall]; exact ⟨_, rfl⟩
end Go.Proofs.Ytgjlpiljacecpaa
