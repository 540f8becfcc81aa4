/-
  Works, and small facts.
-/
import Derived.Test.YtdbimchiecdkoaaGreatSS
import Derived.Test.YtdbimchiecdkoaaGreatF0
namespace Go.Proofs.YtdbimchiecdkoaaGreat
open Go Go.RowKit Sg
set_option linter.unusedVariables false
set_option linter.unusedSimpArgs false
theorem kWorks_true {N : Nat} (hN : 100 ≤ N) : kWorks N = some true := by
  have e1 : runesX (⟨#[97, 32, 98]⟩ : ByteArray) = some [97, 32, 98] := by kernel_rfl
  have e2 : runesX (⟨#[97, 13, 10, 98]⟩ : ByteArray) = some [97, 13, 10, 98] := by kernel_rfl
  have b1 : brk breakC wdC [97, 32, 98] = [0, 0, 1, 2] := by kernel_rfl
  have b2 : brk breakC wdC [97, 13, 10, 98] = [0, 0, 0, 2, 2] := by kernel_rfl
  unfold kWorks kAre
  rw [e1, Option.bind_some, pBreaks_ly (by omega) (by simp; omega) (by simp), Option.bind_some, b1, e2, Option.bind_some, pBreaks_ly (by omega) (by simp; omega) (by simp), Option.bind_some, b2]
  obtain ⟨k, rfl⟩ : ∃ k, N = k + 100 := ⟨N - 100, by omega⟩
  rfl
theorem ix_nat {l : List Int} {i : Nat} {v : Int} (h : l[i]? = some v) : ix l (i : Int) = some v := by
  have : i < l.length := (List.getElem?_eq_some_iff.1 h).1
  exact ix_of (by omega) (by omega) (by simpa using h)
theorem getD_some {l : List Int} {i : Nat} (h : i < l.length) : l[i]? = some (l.getD i 0) := by
  rw [List.getD_eq_getElem?_getD, List.getElem?_eq_getElem h]; rfl
theorem brk_len' (l : List Int) : (brk breakC wdC l).length = l.length + 1 := brk_len l
theorem apx_ok {l r : List Int} (h : l.length + r.length ≤ 1000000) : apx l r = some (l ++ r) := by
  unfold apx
  rw [if_pos (by omega)]
end Go.Proofs.YtdbimchiecdkoaaGreat
