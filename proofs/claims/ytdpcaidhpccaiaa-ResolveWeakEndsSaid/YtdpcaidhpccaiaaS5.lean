/-
  ResolveWeak, ResolveNeutral, ResolveLevels are true, by lists.
-/
import Derived.Test.YtdpcaidhpccaiaaPE
import Derived.Test.YtdpcaidhpccaiaaFWeak
import Derived.Test.YtdpcaidhpccaiaaFNeutral
import Derived.Test.YtdpcaidhpccaiaaFLevels
namespace Go.Proofs.Ytdpcaidhpccaiaa
open Go Go.RowKit
set_option linter.unusedVariables false
set_option linter.unusedSectionVars false
set_option linter.unusedSimpArgs false

theorem apx_nil (l : List Int) (h : l.length ≤ 1000000000) : apx [] l = some l := by unfold apx; rw [if_pos (by simpa using h)]; rfl
theorem kOwn_eq (N : Nat) (l : List Int) (h : l.length ≤ 1000000000) : kOwn N l = some l := by
  unfold kOwn
  rw [apx_nil l h]
  rfl
theorem kIs_loop (N : Nat) (a : List Int) (ha : a.length ≤ 900000000) : ∀ (k i : Nat), i ≤ a.length → a.length - i < k → kIs_L1 N a a k (i : Int) = some (Ctl.go ())
  | 0, _, _, h => absurd h (Nat.not_lt_zero _)
  | k + 1, i, hi, hk => by
    unfold kIs_L1
    by_cases h : i < a.length
    · rw [if_pos (by omega), ixe h]
      simp only [Option.bind_some]
      rw [if_neg (fun e => e rfl), wne i (by omega)]
      exact kIs_loop N a ha k (i + 1) (by omega) (by omega)
    · rw [if_neg (by omega)]
theorem kIs_self (N : Nat) (a : List Int) (ha : a.length ≤ 900000000) (hN : a.length < N) : kIs N a a = some true := by
  unfold kIs
  have h := kIs_loop N a ha N 0 (Nat.zero_le _) (by omega)
  rw [show ((0 : Nat) : Int) = 0 from rfl] at h
  rw [if_neg (fun e => e rfl), h]
  rfl
theorem kArabic_eq (N : Nat) (hN : 100 ≤ N) : kArabic N = some true := by
  unfold kArabic
  rw [pWeak_eq N _ 1 (by decide) (by show 5 < N; omega), show weakS [3, 9, 4, 8, 4] 1 = [2, 2, 7, 7, 7] by kernel_rfl, Option.bind_some, kIs_self N _ (by decide) (by show 5 < N; omega)]
  rfl
theorem kWorks_eq (N : Nat) (hN : 100 ≤ N) : kWorks N = some true := by
  unfold kWorks
  rw [pNeutral_eq N _ 0 1 1 (by decide) (by decide) (by show 7 < N; omega), show neutralS [1, 14, 2, 14, 4, 13, 1] 0 1 1 = [1, 1, 2, 2, 4, 1, 1] by kernel_rfl, Option.bind_some, kIs_self N _ (by decide) (by show 7 < N; omega), Option.bind_some]
  simp only
  rw [pLvl_eq N _ 0 (by decide) (by decide) (by decide) (by show 7 < N; omega), show List.map (lvlC 0) [1, 1, 2, 2, 4, 1, 1] = [0, 0, 1, 1, 2, 0, 0] by kernel_rfl, Option.bind_some]
  exact congrArg some (by kernel_rfl)

/-! ### lengths -/
theorem mergeB_le : ∀ (l row : List Int), (mergeB l row).length ≤ l.length
  | [], _ => Nat.le_refl _
  | c :: l, row => by
    by_cases h : c = 10
    · subst h
      rw [mergeB_bn, List.length_cons, List.length_cons]
      have := mergeB_le l row
      omega
    · cases row with
      | nil => show (if c = 10 then _ else _ : List Int).length ≤ _; rw [if_neg h]; simp
      | cons x row =>
        rw [mergeB_no h, List.length_cons, List.length_cons]
        have := mergeB_le l row
        omega
theorem mergeB_len : ∀ (l row : List Int), row.length = (noBN l).length → (mergeB l row).length = l.length
  | [], _, _ => rfl
  | c :: l, row, hr => by
    by_cases h : c = 10
    · subst h
      rw [mergeB_bn, List.length_cons, List.length_cons, mergeB_len l row (by rw [hr]; rfl)]
    · have e : noBN (c :: l) = c :: noBN l := by unfold noBN; rw [List.filter_cons, if_pos (by simpa using h)]
      rw [e] at hr
      cases row with
      | nil => simp at hr
      | cons x row =>
        rw [mergeB_no h, List.length_cons, List.length_cons, mergeB_len l row (by simpa using hr)]
theorem weakS_len (l : List Int) (s : Int) : (weakS l s).length = l.length := mergeB_len _ _ (rowW_len _ _)
theorem neutralS_len (l : List Int) (v s e : Int) : (neutralS l v s e).length = l.length := mergeB_len _ _ (nS_len _ _ _ _)

theorem fWeak_N (N : Nat) (hN : 10000 ≤ N) (l : List Int) (s : Int) : fWeak N l s = some true := by
  unfold fWeak
  by_cases h : 3000 < l.length
  · rw [if_pos (by omega), kArabic_eq N (by omega)]
    rfl
  · rw [if_neg (by omega), kOwn_eq N l (by omega), Option.bind_some, pWeak_eq N l s (by omega) (by omega), Option.bind_some, rWeak_eq l s (by omega) (by omega), Option.bind_some, kIs_self N _ (by rw [weakS_len]; omega) (by rw [weakS_len]; omega), Option.bind_some]
    simp only
    rw [kIs_self N l (by omega) (by omega), Option.bind_some]
    simp only
    rw [kArabic_eq N (by omega)]
    rfl
theorem fWeak_true (l : List Int) (s : Int) : ∃ N, fWeak N l s = some true := ⟨10000, fWeak_N 10000 (Nat.le_refl _) l s⟩

theorem fNeutral_N (N : Nat) (hN : 10000 ≤ N) (l : List Int) (v s e : Int) (hv : 0 ≤ v) : fNeutral N l v s e = some true := by
  unfold fNeutral
  by_cases h : 3000 < l.length
  · rw [if_pos (by omega), kWorks_eq N (by omega)]
    rfl
  · rw [if_neg (by omega), kOwn_eq N l (by omega), Option.bind_some, pNeutral_eq N l v s e hv (by omega) (by omega), Option.bind_some, rNeutral_eq l v s e hv (by omega) (by omega), Option.bind_some, kIs_self N _ (by rw [neutralS_len]; omega) (by rw [neutralS_len]; omega), Option.bind_some]
    simp only
    rw [kIs_self N l (by omega) (by omega), Option.bind_some]
    simp only
    rw [kWorks_eq N (by omega)]
    rfl
theorem fNeutral_true (l : List Int) (v s e : Int) (hv : 0 ≤ v) : ∃ N, fNeutral N l v s e = some true := ⟨10000, fNeutral_N 10000 (Nat.le_refl _) l v s e hv⟩

theorem fLevels_N (N : Nat) (hN : 10000 ≤ N) (l : List Int) (v : Int) (hv : 0 ≤ v) (hv2 : v ≤ 255) : fLevels N l v = some true := by
  unfold fLevels
  by_cases h : 3000 < l.length
  · rw [if_pos (by omega), kWorks_eq N (by omega)]
    rfl
  · rw [if_neg (by omega), kOwn_eq N l (by omega), Option.bind_some, pLvl_eq N l v hv hv2 (by omega) (by omega), Option.bind_some, rLvl_eq l v hv (by omega) (by omega), Option.bind_some, beq_self_eq_true, Option.bind_some]
    simp only
    rw [kIs_self N l (by omega) (by omega), Option.bind_some]
    simp only
    rw [kWorks_eq N (by omega)]
    rfl
theorem fLevels_true (l : List Int) (v : Int) (hv : 0 ≤ v) (hv2 : v ≤ 255) : ∃ N, fLevels N l v = some true := ⟨10000, fLevels_N 10000 (Nat.le_refl _) l v hv hv2⟩
end Go.Proofs.Ytdpcaidhpccaiaa
