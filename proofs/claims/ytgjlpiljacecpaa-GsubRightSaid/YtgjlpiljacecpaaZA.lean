/-
  slices.Sort by the kit's plain sort: what is exchanged; the small ones.
-/
import Derived.Test.YtgjlpiljacecpaaZ0
import Derived.Sort.AssemblyPlain
namespace Go.Proofs.Ytgjlpiljacecpaa
open Go Go.RowKit
set_option linter.unusedVariables false
set_option linter.unusedSectionVars false
set_option linter.unusedSimpArgs false
theorem zw64 {x : Int} (h0 : -9223372036854775808 ≤ x) (h1 : x ≤ 9223372036854775807) : IntKind.i64.wrap x = x := by rw [IntKind.wrap_i64]; omega
theorem zwp (i : Nat) (h : i ≤ 1000000000) : IntKind.i64.wrap ((i : Int) + 1) = ((i + 1 : Nat) : Int) := by rw [zw64 (by omega) (by omega)]; simp
theorem zwm (i : Nat) (h : i ≤ 1000000000) (h0 : 0 < i) : IntKind.i64.wrap ((i : Int) - 1) = ((i - 1 : Nat) : Int) := by rw [zw64 (by omega) (by omega)]; omega
theorem zix {l : List Int} {i : Nat} (h : i < l.length) : ix l (i : Int) = some (l.getD i 0) := by unfold ix; rw [if_pos (by omega)]; rfl
theorem zset {l : List Int} {i : Nat} (v : Int) (h : i < l.length) : setx l (i : Int) v = some (l.set i v) := by unfold setx; rw [if_pos (by omega)]; simp
theorem zLess_eq (N : Nat) (a b : Int) : zLess N a b = some (Sort.ltInt a b) := by
  unfold zLess zNaN Sort.ltInt
  simp
def swL (l : List Int) (i j : Nat) : List Int := (l.set i (l.getD j 0)).set j (l.getD i 0)
theorem swL_len (l : List Int) (i j : Nat) : (swL l i j).length = l.length := by unfold swL; simp
theorem arr_get (l : List Int) (i : Nat) : l.toArray[i]! = l.getD i 0 := by
  rw [List.getElem!_toArray, List.getD_eq_getElem?_getD, List.getElem!_eq_getElem?_getD]
  rfl
theorem sw_arr (l : List Int) (i j : Nat) : Sort.swp l.toArray i j = (swL l i j).toArray := by
  unfold Sort.swp swL
  rw [arr_get, arr_get, List.setIfInBounds_toArray, List.setIfInBounds_toArray]
theorem sw_run {l : List Int} {i j : Nat} (hi : i < l.length) (hj : j < l.length) {β : Type} (f : List Int → Option β) :
    ((ix l (j : Int)).bind fun a => ((ix l (i : Int)).bind fun c => ((ix l (i : Int)).bind fun _ => ((setx l (i : Int) a).bind fun l1 => ((ix l1 (j : Int)).bind fun _ => ((setx l1 (j : Int) c).bind fun l2 => f l2)))))) = f (swL l i j) := by
  rw [zix hj, zix hi, Option.bind_some, Option.bind_some, Option.bind_some, zset _ hi, Option.bind_some, zix (by rw [List.length_set]; exact hj), Option.bind_some, zset _ (by rw [List.length_set]; exact hj), Option.bind_some]
  rfl
theorem sw_run2 {l : List Int} {i j : Nat} (hi : i < l.length) (hj : j < l.length) {β : Type} (f : List Int → Option β) :
    ((setx l (i : Int) (l.getD j 0)).bind fun l1 => ((ix l1 (j : Int)).bind fun _ => ((setx l1 (j : Int) (l.getD i 0)).bind fun l2 => f l2))) = f (swL l i j) := by
  rw [zset _ hi, Option.bind_some, zix (by rw [List.length_set]; exact hj), Option.bind_some, zset _ (by rw [List.length_set]; exact hj), Option.bind_some]
  rfl
theorem ins_L2 (N p : Nat) : ∀ (j k : Nat) (l : List Int), j < k → j < l.length → l.length ≤ 1000000000 → ∃ l', zIns_L2 N (p : Int) k l (j : Int) = some l' ∧ Sort.insInner Sort.ltInt p j l.toArray = l'.toArray ∧ l'.length = l.length
  | _, 0, _, h, _, _ => absurd h (Nat.not_lt_zero _)
  | 0, k + 1, l, hk, hj, hl => by
    unfold zIns_L2
    rw [if_neg (by omega)]
    exact ⟨l, rfl, rfl, rfl⟩
  | j + 1, k + 1, l, hk, hj, hl => by
    unfold zIns_L2 Sort.insInner
    by_cases h : j + 1 > p
    · rw [if_pos (by omega), zix hj, Option.bind_some, zwm (j + 1) (by omega) (by omega), show j + 1 - 1 = j by omega, zix (by omega), Option.bind_some, zLess_eq, Option.bind_some, arr_get, arr_get]
      cases hb : Sort.ltInt (l.getD (j + 1) 0) (l.getD j 0) with
      | true =>
        obtain ⟨l', e1, e2, e3⟩ := ins_L2 N p j k (swL l (j + 1) j) (by omega) (by rw [swL_len]; omega) (by rw [swL_len]; exact hl)
        refine ⟨l', (sw_run2 (j := j) hj (by omega) (fun l2 => zIns_L2 N (p : Int) k l2 (j : Int))).trans e1, ?_, by rw [e3, swL_len]⟩
        rw [if_pos (by simp [h]), sw_arr]
        exact e2
      | false =>
        refine ⟨l, rfl, ?_, rfl⟩
        rw [if_neg (by simp)]
    · rw [if_neg (by omega), if_neg (by simp; omega)]
      exact ⟨l, rfl, rfl, rfl⟩
theorem ins_L1 (N p b : Nat) (hN : b < N) : ∀ (k i : Nat) (l : List Int), b - i < k → b ≤ l.length → l.length ≤ 1000000000 → ∃ l', zIns_L1 N (p : Int) (b : Int) k l (i : Int) = some l' ∧ Sort.insOuter Sort.ltInt p b i l.toArray = l'.toArray ∧ l'.length = l.length
  | 0, _, _, h, _, _ => absurd h (Nat.not_lt_zero _)
  | k + 1, i, l, hk, hb, hl => by
    unfold zIns_L1 Sort.insOuter
    by_cases h : i < b
    · obtain ⟨l1, e1, e2, e3⟩ := ins_L2 N p i N l (by omega) (by omega) hl
      obtain ⟨l2, f1, f2, f3⟩ := ins_L1 N p b hN k (i + 1) l1 (by omega) (by omega) (by omega)
      rw [if_pos (by omega), if_pos h, e1, Option.bind_some, zwp i (by omega), e2]
      exact ⟨l2, f1, f2, by omega⟩
    · rw [if_neg (by omega), if_neg h]
      exact ⟨l, rfl, rfl, rfl⟩
theorem ins_eq (N a b : Nat) (l : List Int) (hN : b < N) (hb : b ≤ l.length) (ha : a ≤ 900000000) (hl : l.length ≤ 1000000000) : ∃ l', zIns N l (a : Int) (b : Int) = some l' ∧ Sort.insertionSort Sort.ltInt l.toArray a b = l'.toArray ∧ l'.length = l.length := by
  unfold zIns Sort.insertionSort
  rw [zwp a (by omega)]
  exact ins_L1 N a b hN N (a + 1) l (by omega) hb hl
end Go.Proofs.Ytgjlpiljacecpaa
