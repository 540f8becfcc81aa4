/-
  Sorted, and each once: the rising list of what is there.
-/
import Derived.Test.YtgjlpiljacecpaaZG
namespace Go.Proofs.Ytgjlpiljacecpaa
open Go Go.RowKit
set_option linter.unusedVariables false
set_option linter.unusedSectionVars false
set_option linter.unusedSimpArgs false
theorem inc_ext : ∀ (a b : List Int), a.Pairwise (· < ·) → b.Pairwise (· < ·) → (∀ x, x ∈ a ↔ x ∈ b) → a = b
  | [], [], _, _, _ => rfl
  | [], y :: b, _, _, h => absurd ((h y).2 (List.mem_cons_self ..)) (by simp)
  | x :: a, [], _, _, h => absurd ((h x).1 (List.mem_cons_self ..)) (by simp)
  | x :: a, y :: b, ha, hb, h => by
    obtain ⟨a1, a2⟩ := List.pairwise_cons.1 ha
    obtain ⟨b1, b2⟩ := List.pairwise_cons.1 hb
    have hxy : x = y := by
      rcases List.mem_cons.1 ((h x).1 (List.mem_cons_self ..)) with e | e
      · exact e
      rcases List.mem_cons.1 ((h y).2 (List.mem_cons_self ..)) with e' | e'
      · exact e'.symm
      have := b1 x e
      have := a1 y e'
      omega
    subst hxy
    congr 1
    refine inc_ext a b a2 b2 fun z => ⟨fun hz => ?_, fun hz => ?_⟩
    · rcases List.mem_cons.1 ((h z).1 (List.mem_cons_of_mem _ hz)) with e | e
      · have := a1 z hz; omega
      · exact e
    · rcases List.mem_cons.1 ((h z).2 (List.mem_cons_of_mem _ hz)) with e | e
      · have := b1 z hz; omega
      · exact e
theorem cpt_mem (l : List Int) (x : Int) : x ∈ cpt l ↔ x ∈ l := by
  have hd : ∀ i, i < l.length → l.toArray[i]! ∈ cpt l := by
    intro i
    induction i with
    | zero =>
      intro h
      unfold cpt Lib.compactUpTo
      exact List.mem_map.2 ⟨0, List.mem_filter.2 ⟨List.mem_range.2 (by simpa using h), by simp [Lib.keeps]⟩, rfl⟩
    | succ i ih =>
      intro h
      by_cases he : l.toArray[i + 1]! = l.toArray[i]!
      · rw [he]; exact ih (by omega)
      · unfold cpt Lib.compactUpTo
        exact List.mem_map.2 ⟨i + 1, List.mem_filter.2 ⟨List.mem_range.2 (by simpa using h), by unfold Lib.keeps; exact decide_eq_true (.inr he)⟩, rfl⟩
  constructor
  · intro h
    unfold cpt Lib.compactUpTo at h
    obtain ⟨i, hi, rfl⟩ := List.mem_map.1 h
    have h1 := List.mem_range.1 (List.mem_filter.1 hi).1
    rw [List.size_toArray] at h1
    show l.toArray[i]! ∈ l
    rw [arr_get, List.getD_eq_getElem?_getD, List.getElem?_eq_getElem h1]
    exact List.getElem_mem h1
  · intro h
    obtain ⟨i, h1, rfl⟩ := List.getElem_of_mem h
    have := hd i h1
    rwa [arr_get, List.getD_eq_getElem?_getD, List.getElem?_eq_getElem h1] at this
theorem cpt_inc (l : List Int) (hs : l.Pairwise (· ≤ ·)) : (cpt l).Pairwise (· < ·) := by
  unfold cpt Lib.compactUpTo
  rw [List.pairwise_map]
  refine List.Pairwise.imp_of_mem (R := (· < ·)) ?_ ((List.pairwise_lt_range).filter _)
  intro i j hi hj hij
  have h1 := List.mem_range.1 (List.mem_filter.1 hj).1
  rw [List.size_toArray] at h1
  have hk := (List.mem_filter.1 hj).2
  unfold Lib.keeps at hk
  have hk := of_decide_eq_true hk
  have le : ∀ a c, a ≤ c → c < l.length → l.getD a 0 ≤ l.getD c 0 := by
    intro a c hac hc
    rw [List.getD_eq_getElem?_getD, List.getD_eq_getElem?_getD, List.getElem?_eq_getElem (by omega), List.getElem?_eq_getElem hc]
    by_cases e : a = c
    · subst e; exact Int.le_refl _
    · exact List.pairwise_iff_getElem.1 hs a c (by omega) hc (by omega)
  show l.toArray[i]! < l.toArray[j]!
  have hk : l.getD j 0 ≠ l.getD (j - 1) 0 := by
    rcases hk with e | e
    · omega
    · have e : l.toArray[j]! ≠ l.toArray[j - 1]! := e
      rwa [arr_get, arr_get] at e
  rw [arr_get, arr_get]
  have a1 := le i (j - 1) (by omega) (by omega)
  have a2 := le (j - 1) j (by omega) h1
  omega
def upL (ws : List Int) (m : Nat) : List Int := ((List.range m).filter fun v => ws.contains ((v : Nat) : Int)).map fun v => ((v : Nat) : Int)
theorem rise_eq (ws : List Int) (m : Nat) (h : ∀ x ∈ ws, 0 ≤ x ∧ x < (m : Int)) : cpt (ws.mergeSort fun x y => decide (x ≤ y)) = upL ws m := by
  have hs : (ws.mergeSort fun x y => decide (x ≤ y)).Pairwise (· ≤ ·) := by
    have := List.pairwise_mergeSort (le := fun x y : Int => decide (x ≤ y)) (fun a b c h1 h2 => by simp at *; omega) (fun a b => by simp; omega) ws
    exact this.imp (fun h => by simpa using h)
  refine inc_ext _ _ (cpt_inc _ hs) ?_ fun x => ?_
  · unfold upL
    rw [List.pairwise_map]
    exact ((List.pairwise_lt_range).filter _).imp (fun h => by omega)
  · rw [cpt_mem, List.mem_mergeSort]
    unfold upL
    rw [List.mem_map]
    constructor
    · intro hx
      have := h x hx
      exact ⟨x.toNat, List.mem_filter.2 ⟨List.mem_range.2 (by omega), by rw [show ((x.toNat : Nat) : Int) = x by omega]; simpa using hx⟩, by omega⟩
    · rintro ⟨v, hv, rfl⟩
      simpa using (List.mem_filter.1 hv).2
attribute [irreducible] upL
end Go.Proofs.Ytgjlpiljacecpaa
