/-
  ClusterAlone's round, on lists.
-/
import Derived.Test.YtjlencmoobanoaaAlone
namespace Go.Proofs.Ytjlencmoobanoaa
open Go Go.RowKit

/-- at the head of the round of the start with this index -/
def AlS (C b : List Nat) (i : Nat) : Prop := ∀ s R, b.drop i = s :: R → ∃ c L2, C.drop s = c :: L2 ∧ R = boundFrom (withS past0 c) L2 (s + 1) ∧ (0 < i → 1 ≤ s ∧ (c = 4 ∨ c = 5 → endsN (C.getD (s - 1) 0) = true))

theorem al_start (C : List Nat) : AlS C (boundsL C) 0 := by
  intro s R h
  cases C with
  | nil => simp [boundsL] at h
  | cons c L =>
    simp only [boundsL, List.drop_zero, List.cons.injEq] at h
    obtain ⟨rfl, rfl⟩ := h
    exact ⟨c, L, rfl, rfl, fun h => absurd h (Nat.lt_irrefl _)⟩

theorem al_step (C b : List Nat) (hC : ∀ c ∈ C, c < 14) (i : Nat) (h : AlS C b i) (s : Nat) (R : List Nat) (hb : b.drop i = s :: R) (to : Nat) (hto : to = (R.head?).getD C.length) :
    s < to ∧ to ≤ C.length ∧ boundsL ((C.drop s).take (to - s)) = [0] ∧ (0 < i → 1 ≤ s ∧ (C.getD s 0 = 4 ∨ C.getD s 0 = 5 → endsN (C.getD (s - 1) 0) = true)) ∧
    (∀ k, s ≤ k → k < to → endsN (C.getD k 0) = true → 1 < to - s → to - s = 2 ∧ C.getD s 0 = 1 ∧ C.getD (to - 1) 0 = 2) ∧ AlS C b (i + 1) := by
  obtain ⟨c, L2, hd, rfl, hm⟩ := h s R hb
  have hlen : (C.drop s).length = L2.length + 1 := by rw [hd]; simp
  have hsl : s + L2.length + 1 = C.length := by simp at hlen; omega
  have hget : ∀ j, C.getD (s + j) 0 = (c :: L2).getD j 0 := by
    intro j
    rw [← hd, List.getD_eq_getElem?_getD, List.getD_eq_getElem?_getD, List.getElem?_drop]
  have hc0 : C.getD s 0 = c := by have := hget 0; simpa using this
  have hmem : ∀ x ∈ c :: L2, x < 14 := fun x hx => hC x (List.mem_of_mem_drop (by rw [hd]; exact hx))
  have hb1 : b.drop (i + 1) = boundFrom (withS past0 c) L2 (s + 1) := by
    rw [← List.drop_drop, hb]; rfl
  have key : ∀ L1 : List Nat, (∀ x ∈ L1, x < 14) → boundFrom (withS past0 c) L1 (s + 1) = [] → (∀ j, j < L1.length + 1 → C.getD (s + j) 0 = (c :: L1).getD j 0) → ∀ k, s ≤ k → k < s + L1.length + 1 → endsN (C.getD k 0) = true → 1 < L1.length + 1 → L1.length + 1 = 2 ∧ C.getD s 0 = 1 ∧ C.getD (s + L1.length) 0 = 2 := by
    intro L1 hL hbf hg k h1 h2 h3 h4
    obtain ⟨j, rfl⟩ : ∃ j, k = s + j := ⟨k - s, by omega⟩
    rw [hg j (by omega)] at h3
    have hne : L1 ≠ [] := by rintro rfl; simp at h4
    have he : endsN (withS past0 c).last = true ∨ ∃ x ∈ L1, endsN x = true := by
      cases j with
      | zero => exact .inl (show endsN c = true by simpa using h3)
      | succ j =>
        have hj : j < L1.length := by omega
        refine .inr ⟨L1[j], List.getElem_mem _, ?_⟩
        simpa [hj] using h3
    obtain ⟨e1, e2⟩ := pair_end L1 hL _ _ (fit0 c (hmem c (by simp))) hbf he hne
    have e1' : c = 1 := e1
    subst e2
    refine ⟨rfl, by rw [hc0]; exact e1', ?_⟩
    have := hg 1 (by simp)
    simpa using this
  rcases first_start L2 (fun x hx => hmem x (by simp [hx])) (withS past0 c) (s + 1) (fit0 c (hmem c (by simp))) with h0 | ⟨L1, d, L3, rfl, h1, h2, h3⟩
  · have htoC : to = C.length := by rw [hto, h0]; rfl
    subst htoC
    refine ⟨by omega, Nat.le_refl _, ?_, ?_, ?_, ?_⟩
    · rw [List.take_of_length_le (by simp), hd]; exact piece_one c L2 _ h0
    · intro hi; rw [hc0]; exact hm hi
    · intro k k1 k2 k3 k4
      have := key L2 (fun x hx => hmem x (by simp [hx])) h0 (fun j _ => hget j) k k1 (by omega) k3 (by omega)
      refine ⟨by omega, this.2.1, ?_⟩
      rw [show C.length - 1 = s + L2.length by omega]; exact this.2.2
    · intro s' R' h'
      rw [hb1, h0] at h'; cases h'
  · have htoC : to = s + 1 + L1.length := by rw [hto, h2]; rfl
    subst htoC
    simp only [List.length_append, List.length_cons] at hsl
    refine ⟨by omega, by omega, ?_, ?_, ?_, ?_⟩
    · rw [hd, show s + 1 + L1.length - s = L1.length + 1 by omega, List.take_succ_cons, List.take_left']
      · exact piece_one c L1 _ h1
      · rfl
    · intro hi; rw [hc0]; exact hm hi
    · intro k k1 k2 k3 k4
      have := key L1 (fun x hx => hmem x (by simp [hx])) h1 (fun j hj => by
        rw [hget j]
        rw [List.getD_eq_getElem?_getD, List.getD_eq_getElem?_getD, ← List.cons_append, List.getElem?_append_left (by simpa using hj)]) k k1 (by omega) k3 (by omega)
      refine ⟨by omega, this.2.1, ?_⟩
      rw [show s + 1 + L1.length - 1 = s + L1.length by omega]; exact this.2.2
    · intro s' R' h'
      rw [hb1, h2] at h'
      injection h' with e1 e2
      subst e1; subst e2
      have hdd : C.drop (s + 1 + L1.length) = d :: L3 := by
        rw [show s + 1 + L1.length = s + (L1.length + 1) by omega, ← List.drop_drop, hd, List.drop_succ_cons, List.drop_left']
        rfl
      refine ⟨d, L3, hdd, rfl, fun _ => ⟨by omega, fun h45 => ?_⟩⟩
      have h4 := h3 h45
      rw [show s + 1 + L1.length - 1 = s + L1.length by omega, hget]
      have e : (c :: (L1 ++ d :: L3)).getD L1.length 0 = L1.getLast?.getD c := by
        rw [List.getD_eq_getElem?_getD, ← List.cons_append, List.getElem?_append_left (by simp), List.getLast?_eq_getElem?]
        cases L1 with
        | nil => rfl
        | cons x L => simp
      rw [e]; exact h4
end Go.Proofs.Ytjlencmoobanoaa
