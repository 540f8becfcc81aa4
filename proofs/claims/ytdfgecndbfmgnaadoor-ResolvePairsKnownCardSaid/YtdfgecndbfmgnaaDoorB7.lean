/-
  The pairs by their closing brackets, sorted by the opening ones, are the document's.
-/
import Derived.Test.YtdfgecndbfmgnaaDoorB4
namespace Go.Proofs.YtdfgecndbfmgnaaDoor
open Go Go.RowKit
set_option linter.unusedVariables false

theorem popB_at (c : Int) : ∀ (st : List (Int × Int)) (a : Int) (st' : List (Int × Int)), popB c st = some (a, st') → ∃ pre y, st = pre ++ y :: st' ∧ y.2 = a ∧ y.1 = c
  | [], _, _, h => by cases h
  | x :: t, a, st', h => by
    rw [popB] at h
    split at h
    · rename_i e
      injection h with h
      injection h with h1 h2
      exact ⟨[], x, by rw [h2]; rfl, h1, e⟩
    · obtain ⟨pre, y, e1, e2, e3⟩ := popB_at c t a st' h
      exact ⟨x :: pre, y, by rw [e1]; rfl, e2, e3⟩
theorem runB_from : ∀ (t : List (Int × Int)) (i : Int) (st : List (Int × Int)) (p : Int × Int), p ∈ runB i t st → (∃ x ∈ st, x.2 = p.1) ∨ i ≤ p.1
  | [], _, _, _, h => by cases h
  | x :: t, i, st, p, h => by
    have up : p ∈ runB (i + 1) t st → (∃ x ∈ st, x.2 = p.1) ∨ i ≤ p.1 := fun h => (runB_from t (i + 1) st p h).imp id (fun h => by omega)
    rw [runB] at h
    split at h
    · split at h
      · split at h
        · cases h
        · rcases runB_from t (i + 1) _ p h with ⟨y, hy, e⟩ | h
          · rcases List.mem_cons.mp hy with hy | hy
            · rw [hy] at e
              exact .inr (Int.le_of_eq e)
            · exact .inl ⟨y, hy, e⟩
          · exact .inr (by omega)
      · split at h
        · exact up h
        · rename_i a st' hq
          obtain ⟨pre, y, e1, e2, _⟩ := popB_at _ _ _ _ hq
          rcases List.mem_cons.mp h with h | h
          · exact .inl ⟨y, by rw [e1]; simp, by rw [h]; exact e2⟩
          · rcases runB_from t (i + 1) _ p h with ⟨z, hz, e⟩ | h
            · exact .inl ⟨z, by rw [e1]; exact List.mem_append_right _ (List.mem_cons_of_mem _ hz), e⟩
            · exact .inr (by omega)
    · exact up h
theorem runB_apart : ∀ (t : List (Int × Int)) (i : Int) (st : List (Int × Int)), st.Pairwise (fun x y => x.2 ≠ y.2) → (∀ x ∈ st, x.2 < i) → (runB i t st).Pairwise (fun p q => p.1 ≠ q.1)
  | [], _, _, _, _ => List.Pairwise.nil
  | x :: t, i, st, hp, hi => by
    have up : (runB (i + 1) t st).Pairwise (fun p q => p.1 ≠ q.1) := runB_apart t (i + 1) st hp (fun x hx => by have := hi x hx; omega)
    rw [runB]
    split
    · split
      · split
        · exact List.Pairwise.nil
        · refine runB_apart t (i + 1) _ (List.Pairwise.cons (fun y hy => ?_) hp) (fun y hy => ?_)
          · have := hi y hy
            simp only
            omega
          · rcases List.mem_cons.mp hy with hy | hy
            · rw [hy]; simp only; omega
            · have := hi y hy
              omega
      · split
        · exact up
        · rename_i a st' hq
          obtain ⟨pre, y, e1, e2, _⟩ := popB_at _ _ _ _ hq
          rw [e1] at hp hi
          have hp2 := List.pairwise_cons.mp (List.pairwise_append.mp hp).2.1
          refine List.Pairwise.cons (fun q hq => ?_) (runB_apart t (i + 1) st' hp2.2 (fun z hz => by have := hi z (List.mem_append_right _ (List.mem_cons_of_mem _ hz)); omega))
          have hy := hi y (by simp)
          simp only
          rcases runB_from _ _ _ _ hq with ⟨z, hz, e⟩ | h
          · have := hp2.1 z hz
            omega
          · omega
    · exact up

theorem outB_all : ∀ (cl : List Int) (i : Int) (n : Nat), n < cl.length → cl.getD n 0 > 0 → (i + n, cl.getD n 0) ∈ outB i cl
  | [], _, _, h, _ => by simp at h
  | c :: t, i, 0, _, h => by
    have h2 : c > 0 := h
    rw [outB, if_pos h2]
    have e : (i + ((0 : Nat) : Int), (c :: t).getD 0 0) = (i, c) := by
      rw [show i + ((0 : Nat) : Int) = i by omega]; rfl
    rw [e]
    exact List.mem_cons_self ..
  | c :: t, i, n + 1, hn, h => by
    have ih := outB_all t (i + 1) n (by simpa using hn) h
    have e : (i + ((n + 1 : Nat) : Int), (c :: t).getD (n + 1) 0) = (i + 1 + (n : Int), t.getD n 0) := by
      rw [show i + ((n + 1 : Nat) : Int) = i + 1 + (n : Int) by omega]; rfl
    rw [e, outB]
    split
    · exact List.mem_cons_of_mem _ ih
    · exact ih
theorem outB_sorted : ∀ (cl : List Int) (i : Int), (outB i cl).Pairwise (fun p q => p.1 < q.1)
  | [], _ => List.Pairwise.nil
  | c :: t, i => by
    rw [outB]
    split
    · refine List.Pairwise.cons (fun q hq => ?_) (outB_sorted t (i + 1))
      obtain ⟨_, n, _, h, _⟩ := outB_in _ _ _ hq
      simp only
      omega
    · exact outB_sorted t (i + 1)
theorem setAll_keep : ∀ (ps : List (Int × Int)) (cl : List Int) (n : Nat), (∀ p ∈ ps, 0 ≤ p.1 ∧ p.1 ≠ (n : Int)) → (setAll cl ps).getD n 0 = cl.getD n 0
  | [], _, _, _ => rfl
  | p :: ps, cl, n, h => by
    have h0 := h p (List.mem_cons_self ..)
    rw [setAll_cons, setAll_keep ps _ n (fun q hq => h q (List.mem_cons_of_mem _ hq)), List.getD_eq_getElem?_getD, List.getElem?_set_ne (by omega), ← List.getD_eq_getElem?_getD]
theorem setAll_of : ∀ (ps : List (Int × Int)) (cl : List Int), ps.Pairwise (fun p q => p.1 ≠ q.1) → (∀ p ∈ ps, 0 ≤ p.1 ∧ p.1 < cl.length) → ∀ p ∈ ps, (setAll cl ps).getD p.1.toNat 0 = p.2
  | [], _, _, _, p, h => by cases h
  | q :: ps, cl, hp, hc, p, h => by
    have hp2 := List.pairwise_cons.mp hp
    have hq := hc q (List.mem_cons_self ..)
    rw [setAll_cons]
    rcases List.mem_cons.mp h with h | h
    · subst h
      rw [setAll_keep ps _ _ (fun r hr => ⟨(hc r (List.mem_cons_of_mem _ hr)).1, fun e => hp2.1 r hr (by omega)⟩), List.getD_eq_getElem?_getD, List.getElem?_set_self (by omega)]
      rfl
    · exact setAll_of ps _ hp2.2 (fun r hr => by rw [List.length_set]; exact hc r (List.mem_cons_of_mem _ hr)) p h
theorem brackets_mem (l now : List Int) (p : Int × Int) : p ∈ bracketsS l now ↔ p ∈ runB 0 (l.zip now) [] := by
  have hr := runB_in (l.zip now) 0 [] (fun x hx => by cases hx) (Int.le_refl _)
  have hap := runB_apart (l.zip now) 0 [] List.Pairwise.nil (fun x hx => by cases hx)
  have hlen : ∀ q ∈ runB 0 (l.zip now) [], 0 ≤ q.1 ∧ q.1 < (List.replicate l.length (0 : Int)).length := fun q hq => by
    have := hr q hq
    rw [List.length_zip] at this
    rw [List.length_replicate]
    omega
  constructor
  · intro h
    obtain ⟨h1, n, h2, h3, h4⟩ := outB_in _ _ _ h
    rw [setAll_len, List.length_replicate] at h2
    have hz : (List.replicate l.length (0 : Int)).getD n 0 = 0 := by
      rw [List.getD_eq_getElem?_getD, List.getElem?_replicate]
      split <;> rfl
    rcases setAll_at (runB 0 (l.zip now) []) (List.replicate l.length 0) n (by rw [List.length_replicate]; exact h2) (fun q hq => (hr q hq).1) with h | ⟨q, hq, e1, e2⟩
    · rw [h, hz] at h4
      omega
    · have : p = q := Prod.ext (by omega) (by rw [e2]; exact h4)
      rw [this]
      exact hq
  · intro h
    have h0 := hr p h
    have h1 := hlen p h
    have h2 := setAll_of _ (List.replicate l.length 0) hap hlen p h
    have h3 := outB_all (setAll (List.replicate l.length 0) (runB 0 (l.zip now) [])) 0 p.1.toNat (by rw [setAll_len]; omega) (by rw [h2]; omega)
    rw [h2, show (0 : Int) + (p.1.toNat : Int) = p.1 by omega] at h3
    exact h3

theorem sorted_eq : ∀ (a b : List (Int × Int)), a.Pairwise (fun p q => p.1 < q.1) → b.Pairwise (fun p q => p.1 < q.1) → (∀ p, p ∈ a ↔ p ∈ b) → a = b
  | [], [], _, _, _ => rfl
  | [], y :: b, _, _, h => absurd ((h y).mpr (List.mem_cons_self ..)) (by simp)
  | x :: a, [], _, _, h => absurd ((h x).mp (List.mem_cons_self ..)) (by simp)
  | x :: a, y :: b, ha, hb, h => by
    have ha2 := List.pairwise_cons.mp ha
    have hb2 := List.pairwise_cons.mp hb
    have hxy : x = y := by
      rcases List.mem_cons.mp ((h x).mp (List.mem_cons_self ..)) with e | e
      · exact e
      · rcases List.mem_cons.mp ((h y).mpr (List.mem_cons_self ..)) with e2 | e2
        · exact e2.symm
        · have := hb2.1 x e
          have := ha2.1 y e2
          omega
    subst hxy
    have : a = b := sorted_eq a b ha2.2 hb2.2 (fun p => ⟨fun hp => by
      rcases List.mem_cons.mp ((h p).mp (List.mem_cons_of_mem _ hp)) with e | e
      · have := ha2.1 p hp
        rw [e] at this
        omega
      · exact e, fun hp => by
      rcases List.mem_cons.mp ((h p).mpr (List.mem_cons_of_mem _ hp)) with e | e
      · have := hb2.1 p hp
        rw [e] at this
        omega
      · exact e⟩)
    rw [this]
/-- what is sorted by the opening brackets is the document's -/
theorem brackets_sorted (l now : List Int) (q : List (Int × Int)) (hs : q.Pairwise (fun p q => p.1 < q.1)) (hm : ∀ p, p ∈ q ↔ p ∈ runB 0 (l.zip now) []) : q = bracketsS l now :=
  sorted_eq _ _ hs (outB_sorted _ _) (fun p => (hm p).trans (brackets_mem l now p).symm)
end Go.Proofs.YtdfgecndbfmgnaaDoor
