/-
  The document's joining of tables, by lists.
-/
import Derived.Test.YtlpnikolnohcaaaSumT
import Derived.Test.YtlpnikolnohcaaaHdR
namespace Go.Proofs.Ytlpnikolnohcaaa
open Go Go.RowKit

/-- the next multiple of four -/
def upN (n : Nat) : Nat := (n + 3) / 4 * 4

/-- what is joined so far: the records, the rest, where the next table goes, where the sum of the whole goes -/
structure JoinS where
  recs : List Int
  rest : List Int
  place : Nat
  hole : Option Nat

/-- one table joined -/
def joinOne (j : JoinS) (t b : List Int) : Option JoinS :=
  if 16777216 < b.length ∨ 16777216 < j.place then none else
    some ⟨j.recs ++ t ++ (putA [sumTag t b, (j.place : Int), (b.length : Int)] ⟨#[73, 73, 73]⟩).2, j.rest ++ b ++ List.replicate (upN b.length - b.length) 0, j.place + upN b.length, if t = headT ∧ 12 ≤ b.length then some (j.place + 8) else j.hole⟩

/-- the first i tables joined -/
def joinL (ts bs : List (List Int)) (n : Nat) : Nat → Option JoinS
  | 0 => some ⟨headL n, [], 12 + 16 * n, none⟩
  | i + 1 => (joinL ts bs n i).bind fun j => joinOne j (ts.getD i []) (bs.getD i [])

/-- four bytes put at a place -/
def setFour (l : List Int) (p : Nat) (a : List Int) : List Int := l.take p ++ a.take 4 ++ l.drop (p + 4)

/-- do the names stand in their order, from the second up to the i-th? -/
def inOrder (ts : List (List Int)) (i : Nat) : Bool := (List.range i).all fun k => decide (k = 0) || lessL (ts.getD (k - 1) []) (ts.getD k [])

/-- the end of joining: the sum of the whole -/
def joinEnd (j : JoinS) : List Int :=
  match j.hole with
  | none => j.recs ++ j.rest
  | some p => setFour (j.recs ++ j.rest) p (putA [(2981146554 - sumS (setFour (j.recs ++ j.rest) p [0, 0, 0, 0])) % 4294967296] ⟨#[73]⟩).2

/-- the bytes, the error's number -/
def joinS (ts bs : List (List Int)) : List Int × Int :=
  if ts.length ≠ bs.length ∨ ts.length < 1 ∨ 64 < ts.length then ([], 2) else
    if inOrder ts ts.length = false then ([], 2) else
      match joinL ts bs ts.length ts.length with
      | none => ([], 3)
      | some j => if 16777216 < j.place then ([], 3) else (joinEnd j, 0)

theorem upN_le (n : Nat) : n ≤ upN n ∧ upN n ≤ n + 3 ∧ upN n % 4 = 0 := by unfold upN; omega

theorem inOrder_next (ts : List (List Int)) (i : Nat) : inOrder ts (i + 1) = (inOrder ts i && (decide (i = 0) || lessL (ts.getD (i - 1) []) (ts.getD i []))) := by
  unfold inOrder
  rw [List.range_succ, List.all_append]; simp

theorem inOrder_less (ts : List (List Int)) (i : Nat) : ∀ k, inOrder ts i = false → inOrder ts (i + k) = false
  | 0, h => h
  | k + 1, h => by rw [show i + (k + 1) = (i + k) + 1 by omega, inOrder_next, inOrder_less ts i k h]; rfl

theorem joinL_none (ts bs : List (List Int)) (n i : Nat) : ∀ k, joinL ts bs n i = none → joinL ts bs n (i + k) = none
  | 0, h => h
  | k + 1, h => by
    show joinL ts bs n (i + k + 1) = none
    unfold joinL
    rw [joinL_none ts bs n i k h]; rfl

/-- the rest is whole fours; the next table goes right behind it -/
theorem joinL_place (ts bs : List (List Int)) (n : Nat) : ∀ i j, joinL ts bs n i = some j → j.rest.length % 4 = 0 ∧ j.place = 12 + 16 * n + j.rest.length
  | 0, j, h => by simp only [joinL, Option.some.injEq] at h; rw [← h]; simp
  | i + 1, j, h => by
    unfold joinL at h
    cases hp : joinL ts bs n i with
    | none => rw [hp] at h; cases h
    | some j0 =>
      rw [hp] at h
      simp only [Option.bind_some] at h
      unfold joinOne at h
      split at h
      · cases h
      · have hj := joinL_place ts bs n i j0 hp
        have hu := upN_le (bs.getD i []).length
        rw [← Option.some.inj h]
        simp only [List.length_append, List.length_replicate]
        omega
end Go.Proofs.Ytlpnikolnohcaaa
