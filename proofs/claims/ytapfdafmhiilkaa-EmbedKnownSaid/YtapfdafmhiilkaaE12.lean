/-
  EmbedKnown is true, by lists.
-/
import Derived.Test.YtapfdafmhiilkaaE7
import Derived.Test.YtapfdafmhiilkaaFKnown
namespace Go.Proofs.Ytapfdafmhiilkaa
open Go Go.RowKit
set_option linter.unusedVariables false
set_option linter.unusedSectionVars false
set_option linter.unusedSimpArgs false

theorem kDeep_loop (N : Nat) (n : Nat) (c : Int) (hn : n ≤ 400000000) : ∀ (k i : Nat) (a : List Int), n - i < k → i ≤ n → a.length = i → kDeep_L1 N (n : Int) c k a (i : Int) = some (a ++ List.replicate (n - i) c)
  | 0, _, _, h, _, _ => absurd h (Nat.not_lt_zero _)
  | k + 1, i, a, hk, hi, ha => by
    unfold kDeep_L1
    by_cases h : i < n
    · rw [if_pos (by omega), apx_to a [c] (by simp; omega), Option.bind_some, wne i (by omega), kDeep_loop N n c hn k (i + 1) _ (by omega) (by omega) (by simp [ha]), List.append_assoc, show n - i = (n - (i + 1)) + 1 by omega, List.replicate_succ]
      rfl
    · rw [if_neg (by omega), show n - i = 0 by omega]
      simp

/-- so many of a class, and then an ON -/
def deepS (n : Nat) (c : Int) : List Int := List.replicate n c ++ [14]
theorem deepS_len (n : Nat) (c : Int) : (deepS n c).length = n + 1 := by simp [deepS]

theorem kDeep_eq (N n : Nat) (c : Int) (hn : n ≤ 400000000) (hN : n < N) : kDeep N (n : Int) c = some (deepS n c) := by
  unfold kDeep deepS
  have h := kDeep_loop N n c hn N 0 [] (by omega) (Nat.zero_le _) rfl
  rw [show ((0 : Nat) : Int) = 0 from rfl] at h
  rw [h, Option.bind_some, List.nil_append, Nat.sub_zero, apx_to _ [14] (by simp; omega)]
  rfl

theorem pLev (N : Nat) (l : List Int) (b : Int) (hb : 0 ≤ b ∧ b ≤ 255) (hl : l.length ≤ 100000000) (hN : l.length + 2 < N) : pLevels N l b = some ((levelsS l b).1, (levelsS l b).2.1, (levelsS l b).2.2.1, (levelsS l b).2.2.2) := pLevels_eq N l b hb hl hN

theorem known_in (N : Nat) (hN : 10000 ≤ N) (n : Nat) (hn : n ≤ 1000) : ∀ (k i : Nat), 6 - i < k → i ≤ 6 → fKnown_L2 N (n : Int) k (i : Int) = some (Ctl.go ())
  | 0, _, h, _ => absurd h (Nat.not_lt_zero _)
  | k + 1, i, hk, hi => by
    unfold fKnown_L2
    by_cases h : i < 6
    · rw [if_pos (by show (i : Int) < 6; omega), ixe (show i < ([16, 15, 21, 20, 17, 22] : List Int).length from h), Option.bind_some, kDeep_eq N n _ (by omega) (by omega), Option.bind_some]
      simp only [fLevels_N N hN _ 0 (by omega), fLevels_N N hN _ 1 (by omega), fLevels_N N hN _ 2 (by omega), fBounds_N N hN _ 0 (by omega), Option.bind_some]
      rw [apx_to (deepS n _) [21, 2, 19, 23, 19, 14, 23, 19, 1, 11, 2, 16, 14] (by rw [deepS_len]; show n + 1 + 13 ≤ _; omega)]
      simp only [Option.bind_some]
      rw [wne i (by omega)]
      exact known_in N hN n hn k (i + 1) (by omega) (by omega)
    · rw [if_neg (by show ¬ (i : Int) < 6; omega)]

theorem known_out (N : Nat) (hN : 10000 ≤ N) : ∀ (k i : Nat), 9 - i < k → i ≤ 9 → fKnown_L1 N k (i : Int) = some (Ctl.go ())
  | 0, _, h, _ => absurd h (Nat.not_lt_zero _)
  | k + 1, i, hk, hi => by
    unfold fKnown_L1
    by_cases h : i < 9
    · rw [if_pos (by show (i : Int) < 9; omega), ixe (show i < ([61, 62, 63, 64, 124, 125, 126, 127, 130] : List Int).length from h), Option.bind_some]
      have hv : ∀ j : Fin 9, ∃ n : Fin 1000, ([61, 62, 63, 64, 124, 125, 126, 127, 130] : List Int).getD j.val 0 = ((n.val : Nat) : Int) := fun j => match j with
        | ⟨0, _⟩ => ⟨61, rfl⟩ | ⟨1, _⟩ => ⟨62, rfl⟩ | ⟨2, _⟩ => ⟨63, rfl⟩ | ⟨3, _⟩ => ⟨64, rfl⟩ | ⟨4, _⟩ => ⟨124, rfl⟩ | ⟨5, _⟩ => ⟨125, rfl⟩ | ⟨6, _⟩ => ⟨126, rfl⟩ | ⟨7, _⟩ => ⟨127, rfl⟩ | ⟨8, _⟩ => ⟨130, rfl⟩
      obtain ⟨n, hn⟩ := hv ⟨i, h⟩
      rw [show ([61, 62, 63, 64, 124, 125, 126, 127, 130] : List Int).getD i 0 = ((n.val : Nat) : Int) from hn]
      have := known_in N hN n.val (by omega) N 0 (by omega) (by omega)
      rw [show ((0 : Nat) : Int) = 0 from rfl] at this
      rw [this]
      simp only [Option.bind_some]
      rw [wne i (by omega)]
      exact known_out N hN k (i + 1) (by omega) (by omega)
    · rw [if_neg (by show ¬ (i : Int) < 9; omega)]

theorem deep_a : ix (levelsS (deepS 70 16) 0).1 70 = some 125 ∧ (levelsS (deepS 70 16) 0).1.length = 71 := ⟨by kernel_rfl, by kernel_rfl⟩
theorem deep_b : ix (levelsS (deepS 200 21) 1).1 200 = some 125 ∧ (levelsS (deepS 200 21) 1).1.length = 201 := ⟨by kernel_rfl, by kernel_rfl⟩
theorem deep_c : (levelsS (deepS 65536 1) 0).2.2.2 = 3 := by
  unfold levelsS
  rw [if_pos (by rw [deepS_len]; omega)]
theorem deep_d : (levelsS (deepS 65535 1) 0).2.2.2 = 0 := by
  rw [levels_eq (by rw [deepS_len]; omega) (by
    rw [List.all_eq_true]
    intro x hx
    unfold deepS at hx
    rcases List.mem_append.1 hx with hx | hx
    · rw [(List.mem_replicate.1 hx).2]; rfl
    · rw [List.mem_singleton.1 hx]; rfl) (by omega)]

theorem fKnown_N (N : Nat) (hN : 100000 ≤ N) : fKnown N = some true := by
  unfold fKnown
  have hout := known_out N (by omega) N 0 (by omega) (by omega)
  rw [show ((0 : Nat) : Int) = 0 from rfl] at hout
  have d1 := kDeep_eq N 70 16 (by omega) (by omega)
  have d2 := kDeep_eq N 200 21 (by omega) (by omega)
  have d3 := kDeep_eq N 65536 1 (by omega) (by omega)
  have d4 := kDeep_eq N 65535 1 (by omega) (by omega)
  have l1 := pLev N (deepS 70 16) 0 (by omega) (by rw [deepS_len]; omega) (by rw [deepS_len]; omega)
  have l2 := pLev N (deepS 200 21) 1 (by omega) (by rw [deepS_len]; omega) (by rw [deepS_len]; omega)
  have l3 := pLev N (deepS 65536 1) 0 (by omega) (by rw [deepS_len]; omega) (by rw [deepS_len]; omega)
  have l4 := pLev N (deepS 65535 1) 0 (by omega) (by rw [deepS_len]; omega) (by rw [deepS_len]; omega)
  rw [deep_c] at l3
  rw [deep_d] at l4
  have a1 := deep_a
  have a2 := deep_b
  generalize deepS 70 16 = L1 at d1 l1 a1
  generalize deepS 200 21 = L2 at d2 l2 a2
  generalize deepS 65536 1 = L3 at d3 l3
  generalize deepS 65535 1 = L4 at d4 l4
  rw [pLev N [1, 16, 1, 19, 1] 0 (by omega) (by decide) (by simp only [List.length_cons, List.length_nil]; omega), Option.bind_some]
  dsimp only
  rw [pLev N [2, 22, 3, 23, 1] 2 (by omega) (by decide) (by simp only [List.length_cons, List.length_nil]; omega), Option.bind_some]
  dsimp only
  rw [pLev N [23, 21, 11, 16, 1] 2 (by omega) (by decide) (by simp only [List.length_cons, List.length_nil]; omega), Option.bind_some]
  dsimp only
  rw [show levelsS [1, 16, 1, 19, 1] 0 = ([0, 0, 1, 1, 0], [1, 10, 1, 10, 1], 0, 0) by kernel_rfl, show levelsS [2, 22, 3, 23, 1] 2 = ([1, 1, 3, 1, 1], [2, 22, 3, 23, 1], 1, 0) by kernel_rfl, show levelsS [23, 21, 11, 16, 1] 2 = ([0, 0, 0, 0, 1], [23, 21, 11, 10, 1], 0, 0) by kernel_rfl]
  rw [show ((strOfNums [0, 0, 1, 1, 0]).toList == ((⟨#[0, 0, 1, 1, 0]⟩ : ByteArray)).toList) = true by kernel_rfl, show ((strOfNums [1, 1, 3, 1, 1]).toList == ((⟨#[1, 1, 3, 1, 1]⟩ : ByteArray)).toList) = true by kernel_rfl, show ((strOfNums [0, 0, 0, 0, 1]).toList == ((⟨#[0, 0, 0, 0, 1]⟩ : ByteArray)).toList) = true by kernel_rfl]
  rw [hout]
  simp only [Option.bind_some, if_true]
  rw [show (70 : Int) = ((70 : Nat) : Int) from rfl, show (200 : Int) = ((200 : Nat) : Int) from rfl, show (65536 : Int) = ((65536 : Nat) : Int) from rfl, show (65535 : Int) = ((65535 : Nat) : Int) from rfl, d1, d2, d3, d4]
  simp only [Option.bind_some, l1, l2, l3, l4]
  rw [pLev N [0] 0 (by omega) (by decide) (by simp only [List.length_cons, List.length_nil]; omega), pLev N [24] 0 (by omega) (by decide) (by simp only [List.length_cons, List.length_nil]; omega), pLev N [] 3 (by omega) (by decide) (by simp only [List.length_cons, List.length_nil]; omega), pLev N [] 2 (by omega) (by decide) (by simp only [List.length_cons, List.length_nil]; omega)]
  simp only [Option.bind_some]
  rw [show (levelsS [0] 0).2.2.2 = 2 from rfl, show (levelsS [24] 0).2.2.2 = 2 from rfl, show (levelsS [] 3).2.2.2 = 2 from rfl, show (levelsS [] 2).2.2 = (0, 0) from rfl, a1.2, a2.2]
  rw [show ix (levelsS L1 0).1 ((70 : Nat) : Int) = some 125 from a1.1, show ix (levelsS L2 1).1 ((200 : Nat) : Int) = some 125 from a2.1]
  rw [pBase_eq N [21, 2, 23, 1, 2] (by decide) (by simp only [List.length_cons, List.length_nil]; omega), pBase_eq N [21, 2, 1] (by decide) (by simp only [List.length_cons, List.length_nil]; omega), pBase_eq N [23, 3] (by decide) (by simp only [List.length_cons, List.length_nil]; omega), pBase_eq N [14, 11, 2] (by decide) (by simp only [List.length_cons, List.length_nil]; omega), pBase_eq N [16, 4, 9, 2] (by decide) (by simp only [List.length_cons, List.length_nil]; omega), pBase_eq N [20, 11, 2] (by decide) (by simp only [List.length_cons, List.length_nil]; omega), kWorks_eq N (by omega)]
  rfl

theorem fKnown_true : ∃ N, fKnown N = some true := ⟨100000, fKnown_N 100000 (Nat.le_refl _)⟩
end Go.Proofs.Ytapfdafmhiilkaa
