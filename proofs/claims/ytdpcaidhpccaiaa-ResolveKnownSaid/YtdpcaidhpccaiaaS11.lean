/-
  ResolveWeakKnown and ResolveKnown are true, by lists.
-/
import Derived.Test.YtdpcaidhpccaiaaS8
import Derived.Test.YtdpcaidhpccaiaaS9
import Derived.Test.YtdpcaidhpccaiaaS10
import Derived.Test.YtdpcaidhpccaiaaFWeakKnown
import Derived.Test.YtdpcaidhpccaiaaFKnown
namespace Go.Proofs.Ytdpcaidhpccaiaa
open Go Go.RowKit
set_option linter.unusedVariables false
set_option linter.unusedSectionVars false
set_option linter.unusedSimpArgs false

theorem wk3 (N : Nat) (a b : Int) : ∀ (k j : Nat) (l : List Int), 12 - j < k → j ≤ 12 → l.length ≤ 100000000 + 3 * j → ∃ l', fWeakKnown_L3 N a b k l ((2 * j + 1 : Nat) : Int) = some l' ∧ l'.length = l.length + 3 * (12 - j)
  | 0, _, _, h, _, _ => absurd h (Nat.not_lt_zero _)
  | k + 1, j, l, hk, hj, hl => by
    unfold fWeakKnown_L3
    by_cases h : j < 12
    · rw [if_pos (by omega), apx_to l _ (by simp only [List.length_cons, List.length_nil]; omega), Option.bind_some, w8e (by omega) (by omega)]
      obtain ⟨l', h1, h2⟩ := wk3 N a b k (j + 1) (l ++ [a, b, ((2 * j + 1 : Nat) : Int)]) (by omega) (by omega) (by simp only [List.length_append, List.length_cons, List.length_nil]; omega)
      refine ⟨l', ?_, ?_⟩
      · rw [← h1]; congr 1
      · rw [h2]; simp only [List.length_append, List.length_cons, List.length_nil]; omega
    · rw [if_neg (by omega)]
      exact ⟨l, rfl, by omega⟩

theorem wk2 (N : Nat) (hN : 10000 ≤ N) (a : Int) : ∀ (k j : Nat) (l : List Int), 23 - j < k → j ≤ 23 → l.length ≤ 50000000 + 36 * j → ∃ l', fWeakKnown_L2 N a k l ((j + 1 : Nat) : Int) = some (Ctl.go l') ∧ l'.length = l.length + 36 * (23 - j)
  | 0, _, _, h, _, _ => absurd h (Nat.not_lt_zero _)
  | k + 1, j, l, hk, hj, hl => by
    unfold fWeakKnown_L2
    by_cases h : j < 23
    · rw [if_pos (by omega)]
      obtain ⟨l2, g1, g2⟩ := wk3 N a ((j + 1 : Nat) : Int) N 0 l (by omega) (by omega) (by omega)
      rw [show fWeakKnown_L3 N a ((j + 1 : Nat) : Int) N l 1 = some l2 from g1, Option.bind_some, fWeak_N N hN _ _, Option.bind_some, fWeakEnds_N N hN _ _, Option.bind_some, Option.bind_some]
      obtain ⟨l', h1, h2⟩ := wk2 N hN a k (j + 1) l2 (by omega) (by omega) (by omega)
      refine ⟨l', ?_, by omega⟩
      show fWeakKnown_L2 N a k l2 (IntKind.u8.wrap (((j + 1 : Nat) : Int) + 1)) = _
      rw [w8e (by omega) (by omega), ← h1]
      rfl
    · rw [if_neg (by omega)]
      exact ⟨l, rfl, by omega⟩

theorem wk1 (N : Nat) (hN : 10000 ≤ N) : ∀ (k j : Nat) (l : List Int), 23 - j < k → j ≤ 23 → l.length ≤ 20000 * (j + 1) → ∃ l', fWeakKnown_L1 N k l ((j + 1 : Nat) : Int) = some (Ctl.go l') ∧ l'.length = l.length + 828 * (23 - j)
  | 0, _, _, h, _, _ => absurd h (Nat.not_lt_zero _)
  | k + 1, j, l, hk, hj, hl => by
    unfold fWeakKnown_L1
    by_cases h : j < 23
    · rw [if_pos (by omega)]
      obtain ⟨l2, g1, g2⟩ := wk2 N hN ((j + 1 : Nat) : Int) N 0 l (by omega) (by omega) (by omega)
      rw [show fWeakKnown_L2 N ((j + 1 : Nat) : Int) N l 1 = some (Ctl.go l2) from g1, Option.bind_some]
      obtain ⟨l', h1, h2⟩ := wk1 N hN k (j + 1) l2 (by omega) (by omega) (by omega)
      refine ⟨l', ?_, by omega⟩
      show fWeakKnown_L1 N k l2 (IntKind.u8.wrap (((j + 1 : Nat) : Int) + 1)) = _
      rw [w8e (by omega) (by omega), ← h1]
      rfl
    · rw [if_neg (by omega)]
      exact ⟨l, rfl, by omega⟩

theorem fWeakKnown_N (N : Nat) (hN : 10000 ≤ N) : fWeakKnown N = some true := by
  obtain ⟨l, h1, h2⟩ := wk1 N hN N 0 [] (by omega) (by omega) (by show 0 ≤ _; omega)
  have h1' : fWeakKnown_L1 N N [] 1 = some (Ctl.go l) := h1
  have h3 : l.length = 19044 := h2
  have pw : ∀ (x : List Int) (s : Int) (y : List Int), x.length ≤ 20 → weakS x s = y → pWeak N x s = some y := fun x s y hx hy => by rw [pWeak_eq N x s (by omega) (by omega), hy]
  have ks : ∀ y : List Int, y.length ≤ 20 → kIs N y y = some true := fun y hy => kIs_self N y (by omega) (by omega)
  have c1 : cutx l (0 : Int) 2999 = some ((l.take 2999).drop 0) := by unfold cutx; rw [if_pos ⟨by omega, by omega, by omega⟩]; rfl
  have c2 : cutx l (3000 : Int) 6000 = some ((l.take 6000).drop 3000) := by unfold cutx; rw [if_pos ⟨by omega, by omega, by omega⟩]; rfl
  unfold fWeakKnown
  simp only [h1', pw [9, 21, 9, 23, 9] 2 [2, 21, 14, 23, 14] (by decide) (by kernel_rfl), ks [2, 21, 14, 23, 14] (by decide), pw [1, 4, 8, 4, 5, 4, 6] 2 [1, 1, 1, 1, 1, 1, 1] (by decide) (by kernel_rfl), ks [1, 1, 1, 1, 1, 1, 1] (by decide),
    pw [2, 4, 8, 7, 6, 6, 4, 6] 1 [2, 4, 14, 7, 4, 4, 4, 4] (by decide) (by kernel_rfl), ks [2, 4, 14, 7, 4, 4, 4, 4] (by decide), pw [4, 10, 8, 10, 4, 10, 6] 1 [1, 10, 1, 10, 1, 10, 1] (by decide) (by kernel_rfl), ks [1, 10, 1, 10, 1, 10, 1] (by decide),
    pw [6, 10, 6, 5] 2 [14, 10, 14, 14] (by decide) (by kernel_rfl), ks [14, 10, 14, 14] (by decide), pw [] 1 [] (by decide) (by kernel_rfl), Option.bind_some, c1, c2, fWeak_N N hN, kArabic_eq N (by omega)]
  rfl
theorem fWeakKnown_true : ∃ N, fWeakKnown N = some true := ⟨10000, fWeakKnown_N 10000 (Nat.le_refl _)⟩

theorem nk2 (N : Nat) (hN : 10000 ≤ N) (a : Int) (ha : 0 ≤ a) (ha2 : a ≤ 24) : ∀ (k j : Nat), 25 - j < k → j ≤ 25 → fKnown_L2 N a k (j : Int) = some (Ctl.go ())
  | 0, _, h, _ => absurd h (Nat.not_lt_zero _)
  | k + 1, j, hk, hj => by
    unfold fKnown_L2
    by_cases h : j < 25
    · rw [if_pos (by omega), fNeutral_N N hN _ a _ _ ha, Option.bind_some, fNeutral_N N hN _ (j : Int) _ _ (by omega)]
      simp only [Option.bind_some, fLevels_N N hN _ 0 (by decide) (by decide), fLevels_N N hN _ 255 (by decide) (by decide), fEnds_N N hN _ 1 2 2 (by decide)]
      rw [w8e (by omega) (by omega), show (j : Int) + 1 = ((j + 1 : Nat) : Int) by omega]
      exact nk2 N hN a ha ha2 k (j + 1) (by omega) (by omega)
    · rw [if_neg (by omega)]
theorem nk1 (N : Nat) (hN : 10000 ≤ N) : ∀ (k j : Nat), 25 - j < k → j ≤ 25 → fKnown_L1 N k (j : Int) = some (Ctl.go ())
  | 0, _, h, _ => absurd h (Nat.not_lt_zero _)
  | k + 1, j, hk, hj => by
    unfold fKnown_L1
    by_cases h : j < 25
    · rw [if_pos (by omega), show fKnown_L2 N (j : Int) N 0 = some (Ctl.go ()) from nk2 N hN (j : Int) (by omega) (by omega) N 0 (by omega) (by omega), Option.bind_some]
      show fKnown_L1 N k (IntKind.u8.wrap ((j : Int) + 1)) = _
      rw [w8e (by omega) (by omega), show (j : Int) + 1 = ((j + 1 : Nat) : Int) by omega]
      exact nk1 N hN k (j + 1) (by omega) (by omega)
    · rw [if_neg (by omega)]
theorem fKnown_N (N : Nat) (hN : 10000 ≤ N) : fKnown N = some true := by
  have h1 : fKnown_L1 N N 0 = some (Ctl.go ()) := nk1 N hN N 0 (by omega) (by omega)
  have pn : ∀ (x : List Int) (v s e : Int) (y : List Int), x.length ≤ 20 → 0 ≤ v → neutralS x v s e = y → pNeutral N x v s e = some y := fun x v s e y hx hv hy => by rw [pNeutral_eq N x v s e hv (by omega) (by omega), hy]
  have pl : ∀ (x : List Int) (v : Int) (y : List Int), x.length ≤ 20 → 0 ≤ v → v ≤ 255 → x.map (lvlC v) = y → pLvl N x v = some y := fun x v y hx hv hv2 hy => by rw [pLvl_eq N x v hv hv2 (by omega) (by omega), hy]
  have ks : ∀ y : List Int, y.length ≤ 20 → kIs N y y = some true := fun y hy => kIs_self N y (by omega) (by omega)
  unfold fKnown
  simp only [h1, pn [2, 10, 14, 10, 2] 0 1 1 [2, 10, 2, 10, 2] (by decide) (by decide) (by kernel_rfl), pn [14] 1 1 1 [1] (by decide) (by decide) (by kernel_rfl), ks [1] (by decide), pl [1] 1 [2] (by decide) (by decide) (by decide) (by kernel_rfl),
    pn [21, 23, 11] 0 2 2 [2, 2, 2] (by decide) (by decide) (by kernel_rfl), ks [2, 2, 2] (by decide), ks [2, 10, 2, 10, 2] (by decide), pl [2, 10, 2, 10, 2] 0 [1, 0, 1, 0, 1] (by decide) (by decide) (by decide) (by kernel_rfl),
    pn [14, 14] 0 2 1 [1, 1] (by decide) (by decide) (by kernel_rfl), ks [1, 1] (by decide), pn [4, 14, 7] 0 1 1 [4, 2, 7] (by decide) (by decide) (by kernel_rfl), ks [4, 2, 7] (by decide), pn [] 0 1 1 [] (by decide) (by decide) (by kernel_rfl), Option.bind_some,
    show ((strOfNums [2]).toList == ((⟨#[2]⟩ : ByteArray)).toList) = true by kernel_rfl, show ((strOfNums [1, 0, 1, 0, 1]).toList == ((⟨#[1, 0, 1, 0, 1]⟩ : ByteArray)).toList) = true by kernel_rfl, kWorks_eq N (by omega)]
  rfl
theorem fKnown_true : ∃ N, fKnown N = some true := ⟨10000, fKnown_N 10000 (Nat.le_refl _)⟩
end Go.Proofs.Ytdpcaidhpccaiaa
