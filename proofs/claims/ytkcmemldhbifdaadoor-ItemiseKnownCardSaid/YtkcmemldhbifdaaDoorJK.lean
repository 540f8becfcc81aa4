/-
  ItemiseKnown, by lists.
-/
import Derived.Test.YtkcmemldhbifdaaDoorID
import Derived.Test.YtkcmemldhbifdaaDoorFKnown
namespace Go.Proofs.YtkcmemldhbifdaaDoor
open Go Go.RowKit _root_.It
set_option linter.unusedVariables false
set_option linter.unusedSimpArgs false
theorem bindK {α β : Type} {o : Option α} {a : α} {f : α → Option β} {r : Option β} (h : o = some a) (h2 : f a = r) : o.bind f = r := by rw [h]; exact h2
theorem ks0 {N : Nat} (hN : 200 ≤ N) : kScripts N (⟨#[97, 32, 215, 144, 33, 216, 168]⟩ : ByteArray) (⟨#[50, 50, 51, 51, 52]⟩ : ByteArray) = some true := by
  have e1 : runesX (⟨#[97, 32, 215, 144, 33, 216, 168]⟩ : ByteArray) = some [97, 32, 1488, 33, 1576] := by kernel_rfl
  have b1 : It.scripts D0 [97, 32, 1488, 33, 1576] = [2, 2, 3, 3, 4] := by kernel_rfl
  unfold kScripts
  rw [e1, Option.bind_some, pScripts_eq (by simp; omega) (by simp), Option.bind_some, b1]
  obtain ⟨k, rfl⟩ : ∃ k, N = k + 100 := ⟨N - 100, by omega⟩
  rfl
theorem ks1 {N : Nat} (hN : 200 ≤ N) : kScripts N (⟨#[49, 97, 40, 215, 144, 41, 204, 129]⟩ : ByteArray) (⟨#[50, 50, 50, 51, 50, 50]⟩ : ByteArray) = some true := by
  have e1 : runesX (⟨#[49, 97, 40, 215, 144, 41, 204, 129]⟩ : ByteArray) = some [49, 97, 40, 1488, 41, 769] := by kernel_rfl
  have b1 : It.scripts D0 [49, 97, 40, 1488, 41, 769] = [2, 2, 2, 3, 2, 2] := by kernel_rfl
  unfold kScripts
  rw [e1, Option.bind_some, pScripts_eq (by simp; omega) (by simp), Option.bind_some, b1]
  obtain ⟨k, rfl⟩ : ∃ k, N = k + 100 := ⟨N - 100, by omega⟩
  rfl
theorem ks2 {N : Nat} (hN : 200 ≤ N) : kScripts N (⟨#[33, 63]⟩ : ByteArray) (⟨#[48, 48]⟩ : ByteArray) = some true := by
  have e1 : runesX (⟨#[33, 63]⟩ : ByteArray) = some [33, 63] := by kernel_rfl
  have b1 : It.scripts D0 [33, 63] = [0, 0] := by kernel_rfl
  unfold kScripts
  rw [e1, Option.bind_some, pScripts_eq (by simp; omega) (by simp), Option.bind_some, b1]
  obtain ⟨k, rfl⟩ : ∃ k, N = k + 100 := ⟨N - 100, by omega⟩
  rfl
theorem ks3 {N : Nat} (hN : 200 ≤ N) : kScripts N (⟨#[97, 226, 128, 169, 33, 215, 144]⟩ : ByteArray) (⟨#[50, 50, 51, 51]⟩ : ByteArray) = some true := by
  have e1 : runesX (⟨#[97, 226, 128, 169, 33, 215, 144]⟩ : ByteArray) = some [97, 8233, 33, 1488] := by kernel_rfl
  have b1 : It.scripts D0 [97, 8233, 33, 1488] = [2, 2, 3, 3] := by kernel_rfl
  unfold kScripts
  rw [e1, Option.bind_some, pScripts_eq (by simp; omega) (by simp), Option.bind_some, b1]
  obtain ⟨k, rfl⟩ : ∃ k, N = k + 100 := ⟨N - 100, by omega⟩
  rfl
theorem ks4 {N : Nat} (hN : 200 ≤ N) : kScripts N (⟨#[40, 215, 144, 41, 33, 97]⟩ : ByteArray) (⟨#[51, 51, 51, 51, 50]⟩ : ByteArray) = some true := by
  have e1 : runesX (⟨#[40, 215, 144, 41, 33, 97]⟩ : ByteArray) = some [40, 1488, 41, 33, 97] := by kernel_rfl
  have b1 : It.scripts D0 [40, 1488, 41, 33, 97] = [3, 3, 3, 3, 2] := by kernel_rfl
  unfold kScripts
  rw [e1, Option.bind_some, pScripts_eq (by simp; omega) (by simp), Option.bind_some, b1]
  obtain ⟨k, rfl⟩ : ∃ k, N = k + 100 := ⟨N - 100, by omega⟩
  rfl
theorem ks5 {N : Nat} (hN : 200 ≤ N) : kScripts N (⟨#[97, 40, 215, 144, 91, 98, 41, 93, 33]⟩ : ByteArray) (⟨#[50, 50, 51, 51, 50, 50, 50, 50]⟩ : ByteArray) = some true := by
  have e1 : runesX (⟨#[97, 40, 215, 144, 91, 98, 41, 93, 33]⟩ : ByteArray) = some [97, 40, 1488, 91, 98, 41, 93, 33] := by kernel_rfl
  have b1 : It.scripts D0 [97, 40, 1488, 91, 98, 41, 93, 33] = [2, 2, 3, 3, 2, 2, 2, 2] := by kernel_rfl
  unfold kScripts
  rw [e1, Option.bind_some, pScripts_eq (by simp; omega) (by simp), Option.bind_some, b1]
  obtain ⟨k, rfl⟩ : ∃ k, N = k + 100 := ⟨N - 100, by omega⟩
  rfl
theorem ks6 {N : Nat} (hN : 200 ≤ N) : kScripts N (⟨#[]⟩ : ByteArray) (⟨#[]⟩ : ByteArray) = some true := by
  have e1 : runesX (⟨#[]⟩ : ByteArray) = some [] := by kernel_rfl
  have b1 : It.scripts D0 [] = [] := by kernel_rfl
  unfold kScripts
  rw [e1, Option.bind_some, pScripts_eq (by simp; omega) (by simp), Option.bind_some, b1]
  obtain ⟨k, rfl⟩ : ∃ k, N = k + 100 := ⟨N - 100, by omega⟩
  rfl
theorem ks7 {N : Nat} (hN : 200 ≤ N) : kScripts N (⟨#[41, 97]⟩ : ByteArray) (⟨#[50, 50]⟩ : ByteArray) = some true := by
  have e1 : runesX (⟨#[41, 97]⟩ : ByteArray) = some [41, 97] := by kernel_rfl
  have b1 : It.scripts D0 [41, 97] = [2, 2] := by kernel_rfl
  unfold kScripts
  rw [e1, Option.bind_some, pScripts_eq (by simp; omega) (by simp), Option.bind_some, b1]
  obtain ⟨k, rfl⟩ : ∃ k, N = k + 100 := ⟨N - 100, by omega⟩
  rfl
theorem ks8 {N : Nat} (hN : 200 ≤ N) : kScripts N (⟨#[204, 129, 215, 144]⟩ : ByteArray) (⟨#[51, 51]⟩ : ByteArray) = some true := by
  have e1 : runesX (⟨#[204, 129, 215, 144]⟩ : ByteArray) = some [769, 1488] := by kernel_rfl
  have b1 : It.scripts D0 [769, 1488] = [3, 3] := by kernel_rfl
  unfold kScripts
  rw [e1, Option.bind_some, pScripts_eq (by simp; omega) (by simp), Option.bind_some, b1]
  obtain ⟨k, rfl⟩ : ∃ k, N = k + 100 := ⟨N - 100, by omega⟩
  rfl
section
variable {N : Nat}
theorem kn_L1 (f i : Nat) (out : List Int) (hf : 70 - i < f) (hi : i ≤ 70) (ho : out.length ≤ 2 * i) : ∃ l, fKnown_L1 N f out (i : Int) = some l ∧ l.length = out.length + 2 * (70 - i) := by
  induction f generalizing i out with
  | zero => omega
  | succ f ih =>
    unfold fKnown_L1
    by_cases h : i < 70
    · rw [if_pos (by omega), apx_ok (by simp; omega), Option.bind_some, w64s (by omega) (by omega), show (i : Int) + 1 = ((i + 1 : Nat) : Int) by omega]
      obtain ⟨l, h1, h2⟩ := ih (i + 1) (out ++ [40, 97]) (by omega) (by omega) (by simp; omega)
      exact ⟨l, h1, by rw [h2]; simp; omega⟩
    · exact ⟨out, by rw [if_neg (by omega)], by omega⟩
theorem kn_L2 (f i : Nat) (out : List Int) (hf : 70 - i < f) (hi : i ≤ 70) (ho : out.length ≤ 141 + 2 * i) : ∃ l, fKnown_L2 N f out (i : Int) = some l ∧ l.length = out.length + 2 * (70 - i) := by
  induction f generalizing i out with
  | zero => omega
  | succ f ih =>
    unfold fKnown_L2
    by_cases h : i < 70
    · rw [if_pos (by omega), apx_ok (by simp; omega), Option.bind_some, w64s (by omega) (by omega), show (i : Int) + 1 = ((i + 1 : Nat) : Int) by omega]
      obtain ⟨l, h1, h2⟩ := ih (i + 1) (out ++ [41, 49]) (by omega) (by omega) (by simp; omega)
      exact ⟨l, h1, by rw [h2]; simp; omega⟩
    · exact ⟨out, by rw [if_neg (by omega)], by omega⟩
theorem kn_L3 {s : List Int} (hs : s.length ≤ 300) (f i : Nat) (out : List Int) (hf : s.length - i < f) (hi : i ≤ s.length) (ho : out.length = i) : ∃ l, fKnown_L3 N s f out (i : Int) = some l ∧ l.length = s.length := by
  induction f generalizing i out with
  | zero => omega
  | succ f ih =>
    unfold fKnown_L3
    by_cases h : i < s.length
    · rw [if_pos (by omega), apx_ok (by simp; omega), Option.bind_some, w64s (x := (i : Int) + 1) (by omega) (by omega), show (i : Int) + 1 = ((i + 1 : Nat) : Int) by omega]
      exact ih (i + 1) _ (by omega) (by omega) (by simp; omega)
    · exact ⟨out, by rw [if_neg (by omega)], by omega⟩
theorem mk_some (n : Nat) (h : n ≤ 1000000) : ∃ l, mkx (n : Int) = some l ∧ l.length = n := ⟨List.replicate n 0, by unfold mkx; rw [if_pos ⟨by omega, by omega⟩, Int.toNat_natCast], List.length_replicate⟩
theorem fKnown_true (hN : 70000 ≤ N) : fKnown N = some true := by
  obtain ⟨l1, e1, n1⟩ := kn_L1 (N := N) N 0 [] (by omega) (by omega) (by simp)
  obtain ⟨l2, e2, n2⟩ := kn_L2 (N := N) N 0 (l1 ++ [1488]) (by omega) (by omega) (by rw [List.length_append, n1]; simp)
  have n2' : l2.length = 281 := by rw [n2, List.length_append, n1]; rfl
  obtain ⟨l3, e3, n3⟩ := kn_L3 (N := N) (s := l2) (by omega) N 0 [] (by omega) (by omega) rfl
  obtain ⟨m1, f1, g1⟩ := mk_some 65537 (by omega)
  obtain ⟨m2, f2, g2⟩ := mk_some 2 (by omega)
  obtain ⟨m3, f3, g3⟩ := mk_some 65536 (by omega)
  obtain ⟨l4, e4⟩ : ∃ l4, cutx l3 (1 : Int) ((l3.length : Nat) : Int) = some l4 := ⟨_, by unfold cutx; rw [if_pos ⟨by omega, by omega, by omega⟩]⟩
  have a1 : apx l1 [1488] = some (l1 ++ [1488]) := apx_ok (by rw [n1]; simp)
  rw [show ((0 : Nat) : Int) = 0 from rfl] at e1 e2 e3
  rw [show ((65537 : Nat) : Int) = 65537 from rfl] at f1
  rw [show ((2 : Nat) : Int) = 2 from rfl] at f2
  rw [show ((65536 : Nat) : Int) = 65536 from rfl] at f3
  have p1 : pRuns N m1 m1 = some ([], 3) := pRuns_long (by omega)
  have p2 : pRuns N m2 [] = some ([], 2) := pRuns_arg (by omega) (by rw [g2]; simp)
  have p3 := pRuns_eq (N := N) (l := m3) (lv := m3) (by omega) (by omega) rfl
  have t1 := fScripts_true (N := N) (l := l2) (by omega)
  have t2 := fRuns_true (N := N) (l := l2) (lv := l3) (by omega)
  have t3 := fTiles_true (N := N) (l := l2) (lv := l3) (by omega)
  have t4 := fRuns_true (N := N) (l := l2) (lv := l4) (by omega)
  have t5 := fRuns_true (N := N) (l := []) (lv := []) (by omega)
  have hw := kWorks_true (N := N) (by omega)
  have hN2 : 200 ≤ N := by omega
  unfold fKnown
  refine bindK (a := true) ?_ ?_
  · simp only [ks0 hN2, ks1 hN2, ks2 hN2, ks3 hN2, ks4 hN2, ks5 hN2, ks6 hN2, ks7 hN2, ks8 hN2, Option.bind_some]
  refine bindK e1 (bindK a1 (bindK e2 (bindK e3 ?_)))
  refine bindK (a := true) ?_ ?_
  · simp only [t1, t2, t3, e4, t4, t5, Option.bind_some]
  refine bindK f1 (bindK f1 (bindK p1 ?_))
  refine bindK f2 (bindK p2 ?_)
  refine bindK f3 (bindK f3 (bindK p3 ?_))
  simp only [Option.bind_some, if_true, hw]
end
theorem fKnown_true' : ∃ N, fKnown N = some true := ⟨70000, fKnown_true (Nat.le_refl _)⟩
end Go.Proofs.YtkcmemldhbifdaaDoor
