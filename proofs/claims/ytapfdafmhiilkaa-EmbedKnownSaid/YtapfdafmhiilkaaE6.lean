/-
  EmbedLevels, EmbedParagraphs are true, by lists.
-/
import Derived.Test.YtapfdafmhiilkaaEP
import Derived.Test.YtapfdafmhiilkaaFLevels
import Derived.Test.YtapfdafmhiilkaaFParagraphs
namespace Go.Proofs.Ytapfdafmhiilkaa
open Go Go.RowKit
set_option linter.unusedVariables false
set_option linter.unusedSectionVars false
set_option linter.unusedSimpArgs false

theorem kWorks_eq (N : Nat) (hN : 100 ≤ N) : kWorks N = some true := by
  unfold kWorks
  rw [pLevels_eq N _ 2 (by omega) (by decide) (by show 7 + 2 < N; omega), show levelsS [1, 21, 2, 17, 14, 23, 2] 2 = ([0, 0, 1, 1, 2, 0, 0], [1, 21, 2, 10, 1, 23, 2], 0, 0) by kernel_rfl]
  simp only [Option.bind_some, if_true]
  rw [show ((strOfNums [0, 0, 1, 1, 2, 0, 0]).toList == ((⟨#[0, 0, 1, 1, 2, 0, 0]⟩ : ByteArray)).toList) = true by kernel_rfl]
  simp only
  rw [if_pos (by rfl), show ix [1, 21, 2, 10, 1, 23, 2] 4 = some 1 by rfl, show ix [1, 21, 2, 10, 1, 23, 2] 3 = some 10 by rfl]
  simp only [Option.bind_some, if_true]
  rw [pBase_eq N _ (by decide) (by show 2 < N; omega)]
  rfl

theorem kSame_loop (N : Nat) (a : List Int) (ha : a.length ≤ 900000000) : ∀ (k i : Nat), i ≤ a.length → a.length - i < k → kSame_L1 N a a k (i : Int) = some (Ctl.go ())
  | 0, _, _, h => absurd h (Nat.not_lt_zero _)
  | k + 1, i, hi, hk => by
    unfold kSame_L1
    by_cases h : i < a.length
    · rw [if_pos (by omega), ixe h]
      simp only [Option.bind_some]
      rw [if_neg (fun e => e rfl), wne i (by omega)]
      exact kSame_loop N a ha k (i + 1) (by omega) (by omega)
    · rw [if_neg (by omega)]

theorem kSame_self (N : Nat) (a b : List Int) (hb : b.length ≤ 900000000) (hN : b.length < N) : kSame N a b a b = some true := by
  unfold kSame
  have h := kSame_loop N b hb N 0 (Nat.zero_le _) (by omega)
  rw [show ((0 : Nat) : Int) = 0 from rfl] at h
  simp only [beq_self_eq_true, Bool.not_true, Option.bind_some]
  rw [if_neg (fun e => e rfl)]
  simp only [Option.bind_some]
  rw [h]
  rfl

theorem apx_nil (l : List Int) (h : l.length ≤ 1000000000) : apx [] l = some l := by unfold apx; rw [if_pos (by simpa using h)]; rfl
theorem apx_to (l m : List Int) (h : l.length + m.length ≤ 1000000000) : apx l m = some (l ++ m) := by unfold apx; rw [if_pos h]

theorem levels_len (l : List Int) (b : Int) : (levelsS l b).1.length ≤ l.length ∧ (levelsS l b).2.1.length ≤ l.length := by
  unfold levelsS
  split
  · simp
  split
  · simp
  split
  · simp
  · simp [runM_len]

theorem fLevels_N (N : Nat) (hN : 10000 ≤ N) (l : List Int) (b : Int) (hb : 0 ≤ b ∧ b ≤ 255) : fLevels N l b = some true := by
  unfold fLevels
  by_cases h : 2000 < l.length
  · rw [if_pos (by omega), kWorks_eq _ (by omega)]; rfl
  rw [if_neg (by omega), apx_nil l (by omega)]
  simp only [Option.bind_some]
  rw [pLevels_eq N l b hb (by omega) (by omega), rLevels_eq N l b hb (by omega) (by omega)]
  have hle := levels_len l b
  simp only [Option.bind_some]
  rw [kSame_self N (levelsS l b).1 (levelsS l b).2.1 (by omega) (by omega)]
  simp only [Option.bind_some, if_true]
  rw [kSame_self N [] l (by omega) (by omega)]
  simp only [Option.bind_some]
  rw [kWorks_eq _ (by omega)]
  rfl

theorem fLevels_true (l : List Int) (b : Int) (hb : 0 ≤ b ∧ b ≤ 255) : ∃ N, fLevels N l b = some true := ⟨10000, fLevels_N 10000 (Nat.le_refl _) l b hb⟩

theorem baseS_in (l : List Int) (b : Int) (hb : 0 ≤ b ∧ b ≤ 2) : 0 ≤ baseS l b ∧ baseS l b ≤ 1 := by
  unfold baseS
  split
  · split <;> omega
  · omega

/-- what Levels tells where nothing is refused -/
theorem levels_ok {l : List Int} {b : Int} (h : (levelsS l b).2.2.2 = 0) : l.length ≤ 65536 ∧ l.all okC = true ∧ b ≤ 2 ∧ levelsS l b = ((runM (baseS l b) (ms0 (baseS l b)) (baseS l b) l).map Prod.fst, (runM (baseS l b) (ms0 (baseS l b)) (baseS l b) l).map Prod.snd, baseS l b, 0) := by
  unfold levelsS at h ⊢
  split at h
  · simp at h
  rename_i h1
  rw [if_neg h1]
  split at h
  · simp at h
  rename_i h2
  rw [if_neg h2]
  split at h
  · simp at h
  rename_i h3
  rw [if_neg h3]
  exact ⟨by omega, by simpa using h2, by omega, rfl⟩

theorem levels_eq {l : List Int} {b : Int} (h1 : l.length ≤ 65536) (h2 : l.all okC = true) (h3 : b ≤ 2) : levelsS l b = ((runM (baseS l b) (ms0 (baseS l b)) (baseS l b) l).map Prod.fst, (runM (baseS l b) (ms0 (baseS l b)) (baseS l b) l).map Prod.snd, baseS l b, 0) := by
  unfold levelsS
  rw [if_neg (by omega), if_neg (by rw [h2]; simp), if_neg (by omega)]

theorem baseS_01 {l : List Int} {n : Int} (h : n ≤ 1) : baseS l n = n := by unfold baseS; rw [if_neg (by omega)]

theorem fParagraphs_true (l m : List Int) (b : Int) (hb : 0 ≤ b ∧ b ≤ 255) : ∃ N, fParagraphs N l m b = some true := by
  refine ⟨10000, ?_⟩
  unfold fParagraphs
  by_cases c1 : 1000 < l.length
  · rw [if_pos (by omega), kWorks_eq _ (by omega)]; rfl
  rw [if_neg (by omega)]
  by_cases c2 : 1000 < m.length
  · rw [if_pos (by omega), kWorks_eq _ (by omega)]; rfl
  rw [if_neg (by omega)]
  simp only [Option.bind_some]
  rw [apx_nil l (by omega), Option.bind_some, apx_to l [11] (by simp; omega), Option.bind_some, apx_to _ m (by simp; omega), Option.bind_some, pLevels_eq 10000 _ b hb (by simp; omega) (by simp; omega)]
  simp only [Option.bind_some]
  by_cases he : (levelsS (l ++ [11] ++ m) b).2.2.2 = 0
  · obtain ⟨g1, g2, g3, g4⟩ := levels_ok he
    rw [if_neg (fun e => e he), g4]
    simp only
    have hn := baseS_in (l ++ [11] ++ m) b ⟨hb.1, g3⟩
    generalize baseS (l ++ [11] ++ m) b = n at hn
    rw [List.all_append, List.all_append, Bool.and_eq_true, Bool.and_eq_true] at g2
    rw [pLevels_eq 10000 l n (by omega) (by omega) (by omega), pLevels_eq 10000 m n (by omega) (by omega) (by omega), levels_eq (by omega) g2.1.1 (by omega), levels_eq (by omega) g2.2 (by omega), baseS_01 hn.2, baseS_01 hn.2]
    simp only [Option.bind_some]
    rw [apx_to _ [n] (by simp [runM_len]; omega), Option.bind_some, apx_to _ [11] (by simp [runM_len]; omega), Option.bind_some, apx_to _ _ (by simp [runM_len]; omega), Option.bind_some, apx_to _ _ (by simp [runM_len]; omega), Option.bind_some]
    simp only [if_true]
    have hr := run_b (base := n) m l (ms0 n) n
    rw [List.append_assoc, List.singleton_append, hr]
    simp only [List.map_append, List.map_cons, List.append_assoc, List.singleton_append]
    rw [kSame_self 10000 _ _ (by simp [runM_len]; omega) (by simp [runM_len]; omega)]
    simp only [Option.bind_some]
    rw [kWorks_eq _ (by omega)]
    rfl
  · rw [if_pos he, kWorks_eq _ (by omega)]
    rfl
end Go.Proofs.Ytapfdafmhiilkaa
