/-
  How far back the rules look: lists alone.
-/
import Derived.Test.YtjlencmoobanoaaPure
namespace Go.Proofs.Ytjlencmoobanoaa
open Go Go.RowKit

/-- the classes behind which the rules look further back -/
def thr (b : Nat) : Nat := if b = 13 then 48 else if b = 6 then 64 else 0

/-- how far back, from a place on -/
def backTo (C : List Nat) (m : Nat) : Nat → Nat
  | 0 => 0
  | k + 1 => if m.testBit (C.getD (k + 1) 0) then backTo C m k else k + 1

theorem backTo_le (C : List Nat) (m : Nat) : ∀ k, backTo C m k ≤ k := by
  intro k
  induction k with
  | zero => exact Nat.le_refl _
  | succ k ih => rw [backTo]; split <;> omega

theorem backTo_stop (C : List Nat) (m : Nat) : ∀ k, backTo C m k = 0 ∨ m.testBit (C.getD (backTo C m k) 0) = false := by
  intro k
  induction k with
  | zero => exact .inl rfl
  | succ k ih =>
    rw [backTo]
    cases h : m.testBit (C.getD (k + 1) 0) with
    | true => rw [if_pos rfl]; exact ih
    | false => rw [if_neg (by simp)]; exact .inr h

theorem ext_take (L : List Nat) : ∀ k, (L.length ≤ k ∨ ∃ h : k - 1 < L.length, 1 ≤ k ∧ L[k - 1] ≠ 4) → extPict (L.take k) = extPict L := by
  induction L with
  | nil => intro k _; simp
  | cons c t ih =>
    intro k hk
    cases k with
    | zero =>
      rcases hk with h | ⟨_, h, _⟩
      · simp at h
      · omega
    | succ k =>
      rw [List.take_succ_cons, extPict, extPict]
      by_cases h4 : c = 4
      · rw [if_pos h4, if_pos h4]
        refine ih k ?_
        rcases hk with h | ⟨h1, _, h3⟩
        · exact .inl (by simpa using h)
        · cases k with
          | zero => exact absurd h4 (by simpa using h3)
          | succ k => exact .inr ⟨by simpa using h1, by omega, by simpa using h3⟩
      · rw [if_neg h4, if_neg h4]

theorem odd_take (L : List Nat) : ∀ k, (L.length ≤ k ∨ ∃ h : k - 1 < L.length, 1 ≤ k ∧ L[k - 1] ≠ 6) → oddR (L.take k) = oddR L := by
  induction L with
  | nil => intro k _; simp
  | cons c t ih =>
    intro k hk
    cases k with
    | zero =>
      rcases hk with h | ⟨_, h, _⟩
      · simp at h
      · omega
    | succ k =>
      rw [List.take_succ_cons, oddR, oddR]
      by_cases h6 : c = 6
      · rw [if_pos h6, if_pos h6]
        congr 1
        refine ih k ?_
        rcases hk with h | ⟨h1, _, h3⟩
        · exact .inl (by simpa using h)
        · cases k with
          | zero => exact absurd h6 (by simpa using h3)
          | succ k => exact .inr ⟨by simpa using h1, by omega, by simpa using h3⟩
      · rw [if_neg h6, if_neg h6]

theorem docP_j (a b : Nat) (j j' o : Bool) (h : b ≠ 13 ∨ a ≠ 5) : docP a b j o = docP a b j' o := by
  unfold docP
  have e : ∀ x : Bool, (a = 5 ∧ b = 13 ∧ x = true) = False := fun x => by
    apply propext
    constructor
    · rintro ⟨h1, h2, _⟩
      rcases h with h | h
      · exact h h2
      · exact h h1
    · exact False.elim
  simp only [e, if_false]

theorem docP_o (a b : Nat) (j o o' : Bool) (h : b ≠ 6) : docP a b j o = docP a b j o' := by
  unfold docP
  have e : ∀ x : Bool, (a = 6 ∧ b = 6 ∧ x = true) = False := fun x => by
    apply propext
    constructor
    · rintro ⟨_, h2, _⟩; exact h h2
    · exact False.elim
  simp only [e, if_false]

/-- what stands further ahead than the rules look changes nothing -/
theorem docPre_take (P : List Nat) (b m : Nat) (hm : 1 ≤ m) (h : P.length ≤ m ∨ ∃ h : m - 1 < P.length, (thr b).testBit P[m - 1] = false) : docPre (P.take m) b = docPre P b := by
  cases P with
  | nil => simp
  | cons a t =>
    obtain ⟨k, rfl⟩ : ∃ k, m = k + 1 := ⟨m - 1, by omega⟩
    rw [List.take_succ_cons, docPre, docPre]
    rcases h with h | ⟨h1, h2⟩
    · rw [List.take_of_length_le (by simpa using h)]
    · simp only [Nat.add_sub_cancel] at h1 h2
      have hodd : b ≠ 6 ∨ oddR (a :: t.take k) = oddR (a :: t) := by
        by_cases hb : b = 6
        · refine .inr ?_
          subst hb
          have := odd_take (a :: t) (k + 1) (.inr ⟨by simpa using h1, by omega, fun e => by
            simp only [Nat.add_sub_cancel] at e
            rw [e] at h2
            exact absurd h2 (by decide)⟩)
          simpa using this
        · exact .inl hb
      have hext : (b ≠ 13 ∨ a ≠ 5) ∨ extPict (t.take k) = extPict t := by
        by_cases hb : b = 13
        · subst hb
          cases k with
          | zero =>
            refine .inl (.inr fun e => ?_)
            simp only [List.getElem_cons_zero] at h2
            rw [e] at h2
            exact absurd h2 (by decide)
          | succ k =>
            refine .inr (ext_take t (k + 1) (.inr ⟨by simp at h1; omega, by omega, fun e => ?_⟩))
            simp only [Nat.add_sub_cancel] at e
            simp only [List.getElem_cons_succ] at h2
            rw [e] at h2
            exact absurd h2 (by decide)
        · exact .inl (.inl hb)
      have e1 : docP a b (extPict (t.take k)) (oddR (a :: t.take k)) = docP a b (extPict t) (oddR (a :: t.take k)) := by
        rcases hext with h | h
        · exact docP_j _ _ _ _ _ h
        · rw [h]
      have e2 : docP a b (extPict t) (oddR (a :: t.take k)) = docP a b (extPict t) (oddR (a :: t)) := by
        rcases hodd with h | h
        · exact docP_o _ _ _ _ _ h
        · rw [h]
      rw [e1, e2]

/-- from there on the answer is the same -/
theorem docPre_back (C : List Nat) (i : Nat) (hi : i < C.length) (h1 : 1 ≤ i) :
    docPre (((C.take i).drop (backTo C (thr (C.getD i 0)) (i - 1))).reverse) (C.getD i 0) = docPre (C.take i).reverse (C.getD i 0) := by
  obtain ⟨f, hf⟩ : ∃ f, f = backTo C (thr (C.getD i 0)) (i - 1) := ⟨_, rfl⟩
  have hle := backTo_le C (thr (C.getD i 0)) (i - 1)
  have hst := backTo_stop C (thr (C.getD i 0)) (i - 1)
  rw [← hf] at hle hst ⊢
  have hlen : (C.take i).length = i := by simp; omega
  have e : ((C.take i).drop f).reverse = (C.take i).reverse.take (i - f) := by
    rw [List.take_reverse, hlen]
    congr 2
    omega
  rw [e]
  refine docPre_take _ _ _ (by omega) ?_
  rcases hst with h | h
  · exact .inl (by simp; omega)
  · refine .inr ⟨by simp; omega, ?_⟩
    have hx : (C.take i).reverse[i - f - 1]'(by simp; omega) = C.getD f 0 := by
      have hidx : (C.take i).length - 1 - (i - f - 1) = f := by omega
      have hfC : f < C.length := by omega
      rw [List.getElem_reverse, List.getElem_take]
      simp only [hidx]
      rw [List.getD_eq_getElem?_getD, List.getElem?_eq_getElem hfC, Option.getD_some]
    rw [hx]; exact h
end Go.Proofs.Ytjlencmoobanoaa
