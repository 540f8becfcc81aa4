/-
  Rows, looked at.
-/
import Derived.Test.YtbdhgjaoojimmaaDoorGy
import Derived.Test.YtbdhgjaoojimmaaDoorBk
namespace Go.Proofs.YtbdhgjaoojimmaaDoor
open Go Go.RowKit
set_option linter.unusedVariables false
theorem w64s {x : Int} (h0 : -9223372036854775808 ≤ x) (h1 : x ≤ 9223372036854775807) : IntKind.i64.wrap x = x := by rw [IntKind.wrap_i64]; omega
theorem ix_of {l : List Int} {i v : Int} (h0 : 0 ≤ i) (h1 : i < (l.length : Int)) (h : l[i.toNat]? = some v) : ix l i = some v := by
  unfold ix
  rw [if_pos ⟨h0, h1⟩]
  simp [List.getD_eq_getElem?_getD, h]
theorem ix_nat {l : List Int} {i : Nat} {v : Int} (h : l[i]? = some v) : ix l (i : Int) = some v := by
  have : i < l.length := (List.getElem?_eq_some_iff.1 h).1
  exact ix_of (by omega) (by omega) (by simpa using h)
theorem getD_some {l : List Int} {i : Nat} (h : i < l.length) : l[i]? = some (l.getD i 0) := by
  rw [List.getD_eq_getElem?_getD, List.getElem?_eq_getElem h]; rfl
theorem getD_drop {l : List Int} {i : Nat} (h : i < l.length) : l.drop i = l.getD i 0 :: l.drop (i + 1) := by
  rw [List.drop_eq_getElem_cons h]; congr 1; rw [List.getD_eq_getElem?_getD, List.getElem?_eq_getElem h]; rfl
theorem take_succ_getD {l : List Int} {i : Nat} (h : i < l.length) : l.take (i + 1) = l.take i ++ [l.getD i 0] := by
  rw [List.take_add_one, getD_some h]; rfl
theorem setx_nat {l : List Int} {i : Nat} {v : Int} (h : i < l.length) : setx l (i : Int) v = some (l.set i v) := by
  unfold setx; rw [if_pos ⟨by omega, by omega⟩]; simp
theorem apx_ok {l r : List Int} (h : l.length + r.length ≤ 1000000) : apx l r = some (l ++ r) := by
  unfold apx
  rw [if_pos (by omega)]
theorem cut_nat {l : List Int} {i j : Nat} (h : i ≤ j) (h2 : j ≤ l.length) : cutx l (i : Int) (j : Int) = some ((l.take j).drop i) := by
  unfold cutx
  rw [if_pos ⟨by omega, by omega, by omega⟩]; simp
theorem bindK {α β : Type} {o : Option α} {a : α} {f : α → Option β} {r : Option β} (h : o = some a) (h2 : f a = r) : o.bind f = r := by rw [h]; exact h2
end Go.Proofs.YtbdhgjaoojimmaaDoor
