/-
  The document's pairs of brackets, by lists.
-/
import Derived.Test.YtdfgecndbfmgnaaDoorRB1
import Derived.Test.YtdfgecndbfmgnaaDoorS1
namespace Go.Proofs.YtdfgecndbfmgnaaDoor
open Go Go.RowKit
set_option linter.unusedVariables false
set_option linter.unusedSectionVars false
set_option linter.unusedSimpArgs false

theorem ixge {α : Type} {l : List α} {i : Nat} (h : i < l.length) : ixg l (i : Int) = some l[i] := by
  unfold ixg
  rw [if_pos (by omega)]
  simp [h]
theorem apg_to {α : Type} (l m : List α) (h : l.length + m.length ≤ 1000000000) : apg l m = some (l ++ m) := by unfold apg; rw [if_pos h]
theorem drop_g {α : Type} {l : List α} {i : Nat} (h : i < l.length) : l.drop i = l[i] :: l.drop (i + 1) := List.drop_eq_getElem_cons h

/-! ### a bracket -/
def twosT : List (Int × Int) := [(40, 41), (91, 93), (123, 125), (8261, 8262), (8317, 8318), (8333, 8334), (8968, 8969), (8970, 8971), (9001, 9002), (10214, 10215), (10216, 10217), (10218, 10219), (10220, 10221), (10222, 10223), (12296, 12297), (12298, 12299), (12300, 12301), (12302, 12303), (12304, 12305), (12308, 12309), (12310, 12311), (12312, 12313), (12314, 12315)]
def brF (r : Int) : List (Int × Int) → Int × Bool × Bool
  | [] => (0, false, false)
  | (a, b) :: t => if r ≠ a ∧ r ≠ b then brF r t else if b = 9002 then (12297, decide (r = a), true) else (b, decide (r = a), true)
def brS (r : Int) : Int × Bool × Bool := brF r twosT

theorem rBr_loop (N : Nat) (r : Int) (l : List (Int × Int)) (hl : l.length ≤ 1000) : ∀ (k i : Nat), l.length - i < k → i ≤ l.length →
    ((rBr_L1 N r l k (i : Int)).bind fun | Ctl.go () => some (0, false, false) | Ctl.ret x => some x) = some (brF r (l.drop i))
  | 0, _, h, _ => absurd h (Nat.not_lt_zero _)
  | k + 1, i, hk, hi => by
    unfold rBr_L1
    by_cases h : i < l.length
    · have ih := rBr_loop N r l hl k (i + 1) (by omega) (by omega)
      rw [if_pos (by omega), drop_g h]
      simp only [ixge h, Option.bind_some, wne i (show i ≤ 1000000000 by omega)]
      obtain ⟨a, b⟩ := l[i]
      rw [brF]
      by_cases h1 : r ≠ a
      · simp only [if_pos h1]
        by_cases h2 : r ≠ b
        · simp only [if_pos h2, if_pos (And.intro h1 h2)]
          exact ih
        · simp only [if_neg h2, if_neg (fun z : r ≠ a ∧ r ≠ b => h2 z.2)]
          by_cases h3 : b = 9002
          · simp only [if_pos h3]; rfl
          · simp only [if_neg h3]; rfl
      · simp only [if_neg h1, if_neg (fun z : r ≠ a ∧ r ≠ b => h1 z.1)]
        by_cases h3 : b = 9002
        · simp only [if_pos h3]; rfl
        · simp only [if_neg h3]; rfl
    · rw [if_neg (by omega), List.drop_eq_nil_of_le (by omega)]
      rfl
theorem rBr_eq (N : Nat) (hN : 100 ≤ N) (r : Int) : rBr N r = some (brS r) := by
  unfold rBr
  have h := rBr_loop N r twosT (by decide) N 0 (by show 23 - 0 < N; omega) (Nat.zero_le _)
  rw [List.drop_zero, show ((0 : Nat) : Int) = 0 from rfl] at h
  exact h

/-! ### the stack, the last one first -/
def popB (c : Int) : List (Int × Int) → Option (Int × List (Int × Int))
  | [] => none
  | x :: t => if x.1 = c then some (x.2, t) else popB c t
def runB : Int → List (Int × Int) → List (Int × Int) → List (Int × Int)
  | _, [], _ => []
  | i, x :: t, st => if (brS x.1).2.2 = true ∧ x.2 = 14 then
      (if (brS x.1).2.1 = true then (if st.length = 63 then [] else runB (i + 1) t (((brS x.1).1, i) :: st))
       else match popB (brS x.1).1 st with
        | none => runB (i + 1) t st
        | some (a, st') => (a, i) :: runB (i + 1) t st')
    else runB (i + 1) t st
/-- where each one closes -/
def setAll (cl : List Int) (ps : List (Int × Int)) : List Int := ps.foldl (fun a p => a.set p.1.toNat p.2) cl
def outB : Int → List Int → List (Int × Int)
  | _, [] => []
  | i, c :: t => if c > 0 then (i, c) :: outB (i + 1) t else outB (i + 1) t
def bracketsS (l now : List Int) : List (Int × Int) := outB 0 (setAll (List.replicate l.length 0) (runB 0 (l.zip now) []))

theorem popB_in (c : Int) : ∀ (st : List (Int × Int)) (a : Int) (st' : List (Int × Int)), popB c st = some (a, st') → (∃ x ∈ st, x.2 = a) ∧ (∀ x ∈ st', x ∈ st) ∧ st'.length < st.length
  | [], _, _, h => by cases h
  | x :: t, a, st', h => by
    rw [popB] at h
    split at h
    · injection h with h
      injection h with h1 h2
      subst h1; subst h2
      exact ⟨⟨x, List.mem_cons_self .., rfl⟩, fun y hy => List.mem_cons_of_mem _ hy, by simp⟩
    · obtain ⟨⟨y, hy, e⟩, h2, h3⟩ := popB_in c t a st' h
      exact ⟨⟨y, List.mem_cons_of_mem _ hy, e⟩, fun z hz => List.mem_cons_of_mem _ (h2 z hz), by simp; omega⟩

theorem rPop_loop (N : Nat) (i c : Int) (cl : List Int) (st : List (Int × Int)) (hst : ∀ x ∈ st, 0 ≤ x.2 ∧ x.2 < cl.length) (hl : st.length ≤ 1000) : ∀ (k j : Nat), j < k → j ≤ st.length →
    rPrs_L2 N i c k cl st ((j : Int) - 1) = some (match popB c (st.take j).reverse with
      | none => (cl, st)
      | some (a, st') => (cl.set a.toNat i, st'.reverse))
  | 0, _, h, _ => absurd h (Nat.not_lt_zero _)
  | k + 1, 0, _, _ => by
    unfold rPrs_L2
    rw [if_neg (by omega)]
    rfl
  | k + 1, j + 1, hk, hj => by
    unfold rPrs_L2
    have hjl : j < st.length := by omega
    have e1 : ((j + 1 : Nat) : Int) - 1 = (j : Int) := by omega
    have e2 : (st.take (j + 1)).reverse = st[j] :: (st.take j).reverse := by
      rw [List.take_succ_eq_append_getElem hjl, List.reverse_append]; rfl
    have hx := hst st[j] (List.getElem_mem hjl)
    rw [e1, e2, popB, if_pos (by omega)]
    simp only [ixge hjl, Option.bind_some]
    generalize st[j] = x at *
    by_cases h1 : x.1 = c
    · simp only [if_pos h1]
      obtain ⟨n, hn⟩ : ∃ n : Nat, x.2 = (n : Int) := ⟨x.2.toNat, by omega⟩
      rw [hn, ixe (by omega), Option.bind_some, setxe _ (by omega), Option.bind_some]
      unfold trug
      rw [if_pos (by omega), Option.bind_some]
      simp
    · simp only [if_neg h1]
      rw [w64e (by omega) (by omega)]
      exact rPop_loop N i c cl st hst hl k j (by omega) (by omega)
end Go.Proofs.YtdfgecndbfmgnaaDoor
