/-
  Weak classes, by lists: the document's rules.
-/
import Derived.Test.YtdfgecndbfmgnaaDoorGs
namespace Go.Proofs.YtdfgecndbfmgnaaDoor
open Go Go.RowKit
set_option linter.unusedVariables false
set_option linter.unusedSectionVars false
set_option linter.unusedSimpArgs false

theorem w64e {x : Int} (h0 : -9223372036854775808 ≤ x) (h1 : x ≤ 9223372036854775807) : IntKind.i64.wrap x = x := by rw [IntKind.wrap_i64]; omega
theorem w8e {x : Int} (h0 : 0 ≤ x) (h1 : x ≤ 255) : IntKind.u8.wrap x = x := by rw [IntKind.wrap_u8]; omega
theorem wne (i : Nat) (h : i ≤ 1000000000) : IntKind.i64.wrap ((i : Int) + 1) = ((i + 1 : Nat) : Int) := by rw [w64e (by omega) (by omega)]; simp
theorem wme (i : Nat) (h : i ≤ 1000000000) (h0 : 0 < i) : IntKind.i64.wrap ((i : Int) - 1) = ((i - 1 : Nat) : Int) := by rw [w64e (by omega) (by omega)]; omega
theorem ixe {l : List Int} {i : Nat} (h : i < l.length) : ix l (i : Int) = some (l.getD i 0) := by unfold ix; rw [if_pos (by omega)]; rfl
theorem setxe {l : List Int} {i : Nat} (v : Int) (h : i < l.length) : setx l (i : Int) v = some (l.set i v) := by unfold setx; rw [if_pos (by omega)]; simp
theorem drop_e {l : List Int} {i : Nat} (h : i < l.length) : l.drop i = l.getD i 0 :: l.drop (i + 1) := by
  rw [List.drop_eq_getElem_cons h, List.getD_eq_getElem?_getD, List.getElem?_eq_getElem h]; rfl
theorem apx_to (l m : List Int) (h : l.length + m.length ≤ 1000000000) : apx l m = some (l ++ m) := by unfold apx; rw [if_pos h]
theorem mkx_nat (n : Nat) (h : n ≤ 1000000000) : mkx (n : Int) = some (List.replicate n 0) := by unfold mkx; rw [if_pos (by omega)]; simp
theorem take_set_lt (l : List Int) (j : Nat) (v : Int) : (l.set j v).take j = l.take j := by
  apply List.ext_getElem?
  intro m
  rw [List.getElem?_take, List.getElem?_take]
  by_cases h : m < j
  · rw [if_pos h, if_pos h, List.getElem?_set, if_neg (by omega)]
  · rw [if_neg h, if_neg h]
theorem take_succ_set (l : List Int) (j : Nat) (v : Int) (h : j < l.length) : (l.set j v).take (j + 1) = l.take j ++ [v] := by
  rw [List.take_succ_eq_append_getElem (by simpa using h), take_set_lt]
  simp
theorem take_succ_e (l : List Int) (j : Nat) (h : j < l.length) : l.take (j + 1) = l.take j ++ [l.getD j 0] := by
  rw [List.take_succ_eq_append_getElem h, List.getD_eq_getElem?_getD, List.getElem?_eq_getElem h]; rfl
theorem drop_set_ge (l : List Int) (j : Nat) (v : Int) : (l.set j v).drop (j + 1) = l.drop (j + 1) := List.drop_set_of_lt (by omega)
theorem here (a : List Int) (i : Nat) (h : i < a.length) (f : List Int) : a.take i ++ (a.getD i 0 :: f) = a.take (i + 1) ++ f := by
  rw [take_succ_e a i h, List.append_assoc]; rfl
theorem there (a : List Int) (i : Nat) (v : Int) (h : i < a.length) (f : List Int) : a.take i ++ (v :: f) = (a.set i v).take (i + 1) ++ f := by
  rw [take_succ_set a i v h, List.append_assoc]; rfl
end Go.Proofs.YtdfgecndbfmgnaaDoor
