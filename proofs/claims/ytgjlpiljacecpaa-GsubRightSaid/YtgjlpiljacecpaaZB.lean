/-
  The heap, by the kit's plain sort.
-/
import Derived.Test.YtgjlpiljacecpaaZA
namespace Go.Proofs.Ytgjlpiljacecpaa
open Go Go.RowKit
set_option linter.unusedVariables false
set_option linter.unusedSectionVars false
set_option linter.unusedSimpArgs false
theorem zto {α β : Type} {o : Option α} {a : α} {f : α → Option β} {r : Option β} (h : o = some a) (h2 : f a = r) : o.bind f = r := by rw [h]; exact h2
theorem zpp (i j : Nat) (hi : i ≤ 1000000000) (hj : j ≤ 1000000000) : IntKind.i64.wrap ((i : Int) + (j : Int)) = ((i + j : Nat) : Int) := by rw [zw64 (by omega) (by omega)]; simp
theorem zmm (i j : Nat) (hi : i ≤ 1000000000) (h : j ≤ i) : IntKind.i64.wrap ((i : Int) - (j : Int)) = ((i - j : Nat) : Int) := by rw [zw64 (by omega) (by omega)]; omega
def child (hi first root : Nat) (l : List Int) : Nat := if 2 * root + 2 < hi ∧ Sort.ltInt (l.getD (first + (2 * root + 1)) 0) (l.getD (first + (2 * root + 1) + 1) 0) = true then 2 * root + 2 else 2 * root + 1
theorem sift_step (hi first root : Nat) (l : List Int) (h : ¬ 2 * root + 1 ≥ hi) : Sort.siftDown Sort.ltInt hi first root l.toArray = if Sort.ltInt (l.getD (first + root) 0) (l.getD (first + child hi first root l) 0) = true then Sort.siftDown Sort.ltInt hi first (child hi first root l) (swL l (first + root) (first + child hi first root l)).toArray else l.toArray := by
  rw [Sort.siftDown, dif_neg h]
  unfold child
  simp only [arr_get, sw_arr]
  by_cases h1 : 2 * root + 2 < hi ∧ Sort.ltInt (l.getD (first + (2 * root + 1)) 0) (l.getD (first + (2 * root + 1) + 1) 0) = true
  · rw [if_pos h1, if_pos (by simp only [Bool.and_eq_true, decide_eq_true_eq]; exact ⟨by omega, h1.2⟩)]
    cases hb : Sort.ltInt (l.getD (first + root) 0) (l.getD (first + (2 * root + 2)) 0) with
    | true => rw [if_neg (by simp), dif_pos h1.1, if_pos rfl]
    | false => rw [if_pos (by rfl), if_neg (by simp)]
  · rw [if_neg h1, if_neg (by simp only [Bool.and_eq_true, decide_eq_true_eq]; exact fun e => h1 ⟨by omega, e.2⟩)]
    cases hb : Sort.ltInt (l.getD (first + root) 0) (l.getD (first + (2 * root + 1)) 0) with
    | true => rw [if_neg (by simp), if_pos rfl]
    | false => rw [if_pos (by rfl), if_neg (by simp)]
theorem sift_L1 (N hi first : Nat) : ∀ (k root : Nat) (l : List Int), hi - root < k → root ≤ 400000000 → first + hi ≤ l.length → l.length ≤ 400000000 →
    ∃ l', zSift_L1 N (hi : Int) (first : Int) k l (root : Int) = some l' ∧ Sort.siftDown Sort.ltInt hi first root l.toArray = l'.toArray ∧ l'.length = l.length
  | 0, _, _, h, _, _, _ => absurd h (Nat.not_lt_zero _)
  | k + 1, root, l, hk, hr, hf, hl => by
    unfold zSift_L1
    have w0 : IntKind.i64.wrap ((2 : Int) * (root : Int)) = ((2 * root : Nat) : Int) := by rw [zw64 (by omega) (by omega)]; simp
    have w1 : IntKind.i64.wrap (((2 * root : Nat) : Int) + 1) = ((2 * root + 1 : Nat) : Int) := zwp _ (by omega)
    rw [w0, w1]
    by_cases h : 2 * root + 1 ≥ hi
    · rw [if_pos (by omega), Sort.siftDown, dif_pos h]
      exact ⟨l, rfl, rfl, rfl⟩
    · have w2 : IntKind.i64.wrap (((2 * root + 1 : Nat) : Int) + 1) = ((2 * root + 2 : Nat) : Int) := zwp _ (by omega)
      have w3 : IntKind.i64.wrap ((first : Int) + ((2 * root + 1 : Nat) : Int)) = ((first + (2 * root + 1) : Nat) : Int) := zpp _ _ (by omega) (by omega)
      have w4 : IntKind.i64.wrap (((first + (2 * root + 1) : Nat) : Int) + 1) = ((first + (2 * root + 1) + 1 : Nat) : Int) := zwp _ (by omega)
      have w5 : IntKind.i64.wrap ((first : Int) + (root : Int)) = ((first + root : Nat) : Int) := zpp _ _ (by omega) (by omega)
      have hc : child hi first root l < hi ∧ root < child hi first root l := by
        unfold child
        split <;> omega
      have w6 : IntKind.i64.wrap ((first : Int) + ((child hi first root l : Nat) : Int)) = ((first + child hi first root l : Nat) : Int) := zpp _ _ (by omega) (by omega)
      rw [if_neg (by omega), w2, w3, w4, w5, sift_step hi first root l h]
      have mid : ((if ((2 * root + 2 : Nat) : Int) < (hi : Int) then ((ix l ((first + (2 * root + 1) : Nat) : Int)).bind fun x30 => ((ix l ((first + (2 * root + 1) + 1 : Nat) : Int)).bind fun x32 => ((zLess N x30 x32).bind fun b36 => (match b36 with | true => some (((2 * root + 2 : Nat) : Int)) | false => some (((2 * root + 1 : Nat) : Int)))))) else some (((2 * root + 1 : Nat) : Int)) : Option Int)) = some ((child hi first root l : Nat) : Int) := by
        unfold child
        by_cases h1 : 2 * root + 2 < hi
        · rw [if_pos (by omega), zix (by omega), Option.bind_some, zix (by omega), Option.bind_some, zLess_eq, Option.bind_some]
          cases Sort.ltInt (l.getD (first + (2 * root + 1)) 0) (l.getD (first + (2 * root + 1) + 1) 0) with
          | true => rw [if_pos ⟨h1, rfl⟩]
          | false => rw [if_neg (fun e => by cases e.2)]
        · rw [if_neg (by omega), if_neg (fun e => h1 e.1)]
      generalize child hi first root l = c at hc w6 mid ⊢
      cases hb : Sort.ltInt (l.getD (first + root) 0) (l.getD (first + c) 0) with
      | true =>
        obtain ⟨l', e1, e2, e3⟩ := sift_L1 N hi first k c (swL l (first + root) (first + c)) (by omega) (by omega) (by rw [swL_len]; exact hf) (by rw [swL_len]; exact hl)
        refine ⟨l', zto mid ?_, e2, by rw [e3, swL_len]⟩
        rw [w6, zix (by omega), Option.bind_some, zix (by omega), Option.bind_some, zLess_eq, Option.bind_some, hb]
        exact (sw_run2 (i := first + root) (j := first + c) (by omega) (by omega) (fun l2 => zSift_L1 N (hi : Int) (first : Int) k l2 (c : Int))).trans e1
      | false =>
        refine ⟨l, zto mid ?_, rfl, rfl⟩
        rw [w6, zix (by omega), Option.bind_some, zix (by omega), Option.bind_some, zLess_eq, Option.bind_some, hb]
theorem sift_eq (N root hi first : Nat) (l : List Int) (hN : hi < N) (hr : root ≤ 400000000) (hf : first + hi ≤ l.length) (hl : l.length ≤ 400000000) :
    ∃ l', zSift N l (root : Int) (hi : Int) (first : Int) = some l' ∧ Sort.siftDown Sort.ltInt hi first root l.toArray = l'.toArray ∧ l'.length = l.length :=
  sift_L1 N hi first N root l (by omega) hr hf hl
theorem heap_L1 (N a b : Nat) (hab : a ≤ b) (hN : b < N) : ∀ (i k : Nat) (l : List Int), i < k → i ≤ 400000000 → b ≤ l.length → l.length ≤ 400000000 →
    ∃ l', zHeap_L1 N (a : Int) (b : Int) k l ((i : Int) - 1) = some l' ∧ Sort.heapBuild Sort.ltInt (b - a) a i l.toArray = l'.toArray ∧ l'.length = l.length
  | _, 0, _, h, _, _, _ => absurd h (Nat.not_lt_zero _)
  | 0, k + 1, l, _, _, _, _ => by
    unfold zHeap_L1
    rw [if_neg (by omega)]
    exact ⟨l, rfl, rfl, rfl⟩
  | i + 1, k + 1, l, hk, hi, hb, hl => by
    unfold zHeap_L1 Sort.heapBuild
    obtain ⟨l1, e1, e2, e3⟩ := sift_eq N i (b - a) a l (by omega) (by omega) (by omega) hl
    obtain ⟨l2, f1, f2, f3⟩ := heap_L1 N a b hab hN i k l1 (by omega) (by omega) (by omega) (by omega)
    rw [show ((i + 1 : Nat) : Int) - 1 = (i : Int) by omega, if_pos (by omega), zmm b a (by omega) hab, e1, Option.bind_some, zw64 (by omega) (by omega), e2]
    exact ⟨l2, f1, f2, by omega⟩
theorem heap_L2 (N a : Nat) : ∀ (i k : Nat) (l : List Int), i < k → i < N → a + i ≤ l.length → l.length ≤ 400000000 →
    ∃ l', zHeap_L2 N (a : Int) k l ((i : Int) - 1) = some l' ∧ Sort.heapPop Sort.ltInt a i l.toArray = l'.toArray ∧ l'.length = l.length
  | _, 0, _, h, _, _, _ => absurd h (Nat.not_lt_zero _)
  | 0, k + 1, l, _, _, _, _ => by
    unfold zHeap_L2
    rw [if_neg (by omega)]
    exact ⟨l, rfl, rfl, rfl⟩
  | i + 1, k + 1, l, hk, hi, hb, hl => by
    unfold zHeap_L2 Sort.heapPop
    obtain ⟨l1, e1, e2, e3⟩ := sift_eq N 0 i a (swL l a (a + i)) (by omega) (by omega) (by rw [swL_len]; omega) (by rw [swL_len]; exact hl)
    rw [swL_len] at e3
    obtain ⟨l2, f1, f2, f3⟩ := heap_L2 N a i k l1 (by omega) (by omega) (by omega) (by omega)
    rw [show ((i + 1 : Nat) : Int) - 1 = (i : Int) by omega, if_pos (by omega), zpp a i (by omega) (by omega), sw_arr, e2]
    refine ⟨l2, (sw_run (by omega) (by omega) _).trans ?_, f2, by omega⟩
    have e1' : zSift N (swL l a (a + i)) (0 : Int) (i : Int) (a : Int) = some l1 := e1
    rw [e1', Option.bind_some, zw64 (by omega) (by omega)]
    exact f1
theorem heap_eq (N a b : Nat) (l : List Int) (hab : a < b) (hN : b < N) (hb : b ≤ l.length) (hl : l.length ≤ 400000000) : ∃ l', zHeap N l (a : Int) (b : Int) = some l' ∧ Sort.heapSort Sort.ltInt l.toArray a b = l'.toArray ∧ l'.length = l.length := by
  unfold zHeap Sort.heapSort
  have w : IntKind.i64.wrap (Int.tdiv (((b - a : Nat) : Int) - 1) 2) = ((((b - a - 1) / 2 + 1 : Nat)) : Int) - 1 := by
    rw [show (((b - a : Nat) : Int) - 1) = ((b - a - 1 : Nat) : Int) by omega, Int.tdiv_eq_ediv_of_nonneg (by omega), zw64 (by omega) (by omega)]
    omega
  rw [zmm b a (by omega) (by omega), zw64 (x := ((b - a : Nat) : Int) - 1) (by omega) (by omega), w]
  obtain ⟨l1, e1, e2, e3⟩ := heap_L1 N a b (by omega) hN ((b - a - 1) / 2 + 1) N l (by omega) (by omega) hb hl
  obtain ⟨l2, f1, f2, f3⟩ := heap_L2 N a (b - a) N l1 (by omega) (by omega) (by omega) (by omega)
  rw [e1, Option.bind_some, e2]
  exact ⟨l2, f1, f2, by omega⟩
end Go.Proofs.Ytgjlpiljacecpaa
