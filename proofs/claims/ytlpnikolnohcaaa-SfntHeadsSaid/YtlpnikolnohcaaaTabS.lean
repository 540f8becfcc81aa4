/-
  The document's tables of a font, by lists.
-/
import Derived.Test.YtlpnikolnohcaaaSumT
import Derived.Test.YtlpnikolnohcaaaHdR
import Derived.Test.YtlpnikolnohcaaaNumR
namespace Go.Proofs.Ytlpnikolnohcaaa
open Go Go.RowKit

/-- a table: its name, its place, its length -/
abbrev TabL := List Int × Int × Int

/-- the table that the record i tells -/
def tabAt (l : List Int) (i : Nat) : TabL :=
  ([l.getD (12 + 16 * i) 0, l.getD (12 + 16 * i + 1) 0, l.getD (12 + 16 * i + 2) 0, l.getD (12 + 16 * i + 3) 0], numAt l ((12 + 16 * i + 8 : Nat) : Int) 4, numAt l ((12 + 16 * i + 12 : Nat) : Int) 4)

/-- is the record i wrong, the tables ts ahead of it? -/
def badTab (l : List Int) (n i : Nat) (ts : List TabL) : Bool :=
  decide ((tabAt l i).2.1 % 4 ≠ 0) || (decide ((tabAt l i).2.1 < 12 + 16 * (n : Int)) || (!allB l.length (tabAt l i).2.1 (tabAt l i).2.2 || (decide (sumTag (tabAt l i).1 ((l.drop (tabAt l i).2.1.toNat).take (tabAt l i).2.2.toNat) ≠ numAt l ((12 + 16 * i + 4 : Nat) : Int) 4) || (decide (0 < i) && !lessL (ts.getD (i - 1) ([], 0, 0)).1 (tabAt l i).1))))

/-- do two tables lie over each other? -/
def overTab (t u : TabL) : Bool := decide (0 < t.2.2) && (decide (0 < u.2.2) && (decide (t.2.1 < u.2.1 + u.2.2) && decide (u.2.1 < t.2.1 + t.2.2)))

/-- the first i tables -/
def tabsL (l : List Int) (n : Nat) : Nat → Option (List TabL)
  | 0 => some []
  | i + 1 => (tabsL l n i).bind fun ts => if badTab l n i ts || ts.any (overTab (tabAt l i)) then none else some (ts ++ [tabAt l i])

/-- is a font's beginning wrong? -/
def badFont (l : List Int) : Bool :=
  decide (16777216 < l.length) || (decide (l.length < 12) || (decide (numAt l 4 2 < 1) || (decide (64 < numAt l 4 2) || (decide (l.take 12 ≠ headL (numAt l 4 2).toNat) || decide ((l.length : Int) < 12 + 16 * numAt l 4 2)))))

/-- a font's tables, the error's number -/
def tablesS (l : List Int) : List TabL × Int :=
  if badFont l then ([], 50) else
    match tabsL l (numAt l 4 2).toNat (numAt l 4 2).toNat with
    | none => ([], 50)
    | some ts => (ts, 0)

theorem tabsL_len (l : List Int) (n : Nat) : ∀ i ts, tabsL l n i = some ts → ts = (List.range i).map (tabAt l)
  | 0, ts, h => by simp only [tabsL, Option.some.injEq] at h; rw [← h]; rfl
  | i + 1, ts, h => by
    unfold tabsL at h
    cases hp : tabsL l n i with
    | none => rw [hp] at h; cases h
    | some t0 =>
      rw [hp] at h
      simp only [Option.bind_some] at h
      split at h
      · cases h
      · rw [← Option.some.inj h, tabsL_len l n i t0 hp, List.range_succ, List.map_append]; rfl

/-- a wrong record on the way, and nothing is told -/
theorem tabsL_none (l : List Int) (n i : Nat) : ∀ k, tabsL l n i = none → tabsL l n (i + k) = none
  | 0, h => h
  | k + 1, h => by
    show tabsL l n (i + k + 1) = none
    unfold tabsL
    rw [tabsL_none l n i k h]; rfl

theorem tabsL_step (l : List Int) (n i : Nat) (ts : List TabL) (h : tabsL l n i = some ts) (hb : badTab l n i ts = false) (ho : ts.any (overTab (tabAt l i)) = false) : tabsL l n (i + 1) = some (ts ++ [tabAt l i]) := by
  unfold tabsL
  rw [h, Option.bind_some, hb, ho]; rfl

theorem tabsL_bad (l : List Int) (n i : Nat) (hi : i < n) (ts : List TabL) (h : tabsL l n i = some ts) (hb : badTab l n i ts = true ∨ ts.any (overTab (tabAt l i)) = true) : tabsL l n n = none := by
  have h1 : tabsL l n (i + 1) = none := by
    unfold tabsL
    rw [h, Option.bind_some]
    rcases hb with hb | hb <;> rw [hb] <;> simp
  have := tabsL_none l n (i + 1) (n - (i + 1)) h1
  rwa [show i + 1 + (n - (i + 1)) = n by omega] at this

end Go.Proofs.Ytlpnikolnohcaaa
