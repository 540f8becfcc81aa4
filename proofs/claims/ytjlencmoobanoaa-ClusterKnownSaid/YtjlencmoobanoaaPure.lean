/-
  The chapter's rules as the code carries them along are the document's, which go back: lists alone.
-/
import Derived.Test.YtjlencmoobanoaaBase
namespace Go.Proofs.Ytjlencmoobanoaa
open Go Go.RowKit

/-- behind Extends, or none: a Pict? (the characters ahead, the last one first) -/
def extPict : List Nat → Bool
  | [] => false
  | c :: t => if c = 4 then extPict t else decide (c = 13)

/-- an odd number of RI? -/
def oddR : List Nat → Bool
  | [] => false
  | c :: t => if c = 6 then !oddR t else false

def endsN (c : Nat) : Bool := decide (c = 1) || decide (c = 2) || decide (c = 3)

/-- the document's rules: of the class ahead, the one behind, and the two things that it goes back for -/
def docP (a b : Nat) (j o : Bool) : Bool :=
  if a = 1 ∧ b = 2 then false
  else if endsN a || endsN b then true
  else if a = 8 ∧ (b = 8 ∨ b = 9 ∨ b = 11 ∨ b = 12) then false
  else if (a = 11 ∨ a = 9) ∧ (b = 9 ∨ b = 10) then false
  else if (a = 12 ∨ a = 10) ∧ b = 10 then false
  else if b = 4 ∨ b = 5 ∨ a = 7 then false
  else if a = 5 ∧ b = 13 ∧ j = true then false
  else if a = 6 ∧ b = 6 ∧ o = true then false
  else true

/-- the document's answer: the characters ahead, the last one first; the one behind -/
def docPre : List Nat → Nat → Bool
  | [], _ => false
  | a :: t, b => docP a b (extPict t) (oddR (a :: t))

/-- what is carried along, behind these -/
def pastOf : List Nat → PastS
  | [] => past0
  | c :: t => withS (pastOf t) c

theorem past_pict (l : List Nat) : (pastOf l).pict = extPict l := by
  induction l with
  | nil => rfl
  | cons c t ih =>
    show (decide (c = 13) || ((pastOf t).pict && decide (c = 4))) = if c = 4 then extPict t else decide (c = 13)
    rw [ih]
    by_cases h : c = 4
    · subst h; simp
    · simp [h]

theorem past_odd (l : List Nat) : (pastOf l).odd = oddR l := by
  induction l with
  | nil => rfl
  | cons c t ih =>
    show (decide (c = 6) && !(pastOf t).odd) = if c = 6 then !oddR t else false
    rw [ih]
    by_cases h : c = 6
    · subst h; simp
    · simp [h]

theorem rules_same : ((List.range 14).all fun a => (List.range 14).all fun b => [false, true].all fun pi => [false, true].all fun j => [false, true].all fun o =>
    partS ⟨a, pi, j && decide (a = 5), o && decide (a = 6)⟩ b == docP a b j o) = true := by kernel_rfl

theorem part_doc (a b : Nat) (pi j o : Bool) (ha : a < 14) (hb : b < 14) : partS ⟨a, pi, j && decide (a = 5), o && decide (a = 6)⟩ b = docP a b j o := by
  have h1 := List.all_eq_true.1 rules_same a (List.mem_range.2 ha)
  have h2 := List.all_eq_true.1 h1 b (List.mem_range.2 hb)
  have h3 := List.all_eq_true.1 h2 pi (by cases pi <;> simp)
  have h4 := List.all_eq_true.1 h3 j (by cases j <;> simp)
  have h5 := List.all_eq_true.1 h4 o (by cases o <;> simp)
  exact eq_of_beq h5

theorem oddR_six (a : Nat) (t : List Nat) : (oddR (a :: t) && decide (a = 6)) = oddR (a :: t) := by
  rw [oddR]
  by_cases h : a = 6
  · simp [h]
  · simp [h]

/-- the code's answer is the document's -/
theorem part_pre (a : Nat) (t : List Nat) (b : Nat) (ha : a < 14) (hb : b < 14) : partS (pastOf (a :: t)) b = docPre (a :: t) b := by
  have e : pastOf (a :: t) = ⟨a, (pastOf (a :: t)).pict, extPict t && decide (a = 5), oddR (a :: t) && decide (a = 6)⟩ := by
    rw [oddR_six, ← past_odd]
    show withS (pastOf t) a = _
    rw [← past_pict]
    rfl
  rw [e, part_doc _ _ _ _ _ ha hb]
  rfl

/-- the document's Bounds: at each place anew -/
def docBounds (C : List Nat) : List Nat := (List.range C.length).filter fun i => decide (i = 0) || docPre (C.take i).reverse (C.getD i 0)

theorem take_rev (C : List Nat) (i : Nat) (h : i < C.length) : (C.take (i + 1)).reverse = C[i] :: (C.take i).reverse := by
  rw [List.take_succ_eq_append_getElem h, List.reverse_append]; rfl

theorem boundFrom_doc (C : List Nat) (hC : ∀ c ∈ C, c < 14) : ∀ (n i : Nat), i + n = C.length → 1 ≤ i → boundFrom (pastOf (C.take i).reverse) (C.drop i) i = ((List.range' i n).filter fun k => decide (k = 0) || docPre (C.take k).reverse (C.getD k 0)) := by
  intro n
  induction n with
  | zero => intro i hi h1; rw [List.drop_of_length_le (by omega)]; rfl
  | succ n ih =>
    intro i hi h1
    have hlt : i < C.length := by omega
    rw [List.drop_eq_getElem_cons hlt, boundFrom, List.range'_succ, List.filter_cons]
    have e1 : partS (pastOf (C.take i).reverse) C[i] = docPre (C.take i).reverse (C.getD i 0) := by
      obtain ⟨m, rfl⟩ : ∃ m, i = m + 1 := ⟨i - 1, by omega⟩
      rw [take_rev C m (by omega)]
      rw [part_pre _ _ _ (hC _ (List.getElem_mem _)) (hC _ (List.getElem_mem _))]
      simp [hlt]
    have e2 : withS (pastOf (C.take i).reverse) C[i] = pastOf (C.take (i + 1)).reverse := by rw [take_rev C i hlt]; rfl
    have e3 : decide (i = 0) = false := by simp; omega
    rw [e1, e2, ih (i + 1) (by omega) (by omega), e3, Bool.false_or]
    cases docPre (C.take i).reverse (C.getD i 0) <;> simp

theorem bounds_doc (C : List Nat) (hC : ∀ c ∈ C, c < 14) : boundsL C = docBounds C := by
  cases C with
  | nil => rfl
  | cons c l =>
    have h := boundFrom_doc (c :: l) hC l.length 1 (by simp; omega) (by omega)
    rw [boundsL]
    have e : pastOf ((c :: l).take 1).reverse = withS past0 c := rfl
    have e2 : (c :: l).drop 1 = l := rfl
    rw [e, e2] at h
    rw [h]
    unfold docBounds
    rw [List.range_eq_range', List.length_cons, List.range'_succ, List.filter_cons]
    simp
end Go.Proofs.Ytjlencmoobanoaa
