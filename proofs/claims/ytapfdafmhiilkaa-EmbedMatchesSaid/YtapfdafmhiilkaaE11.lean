/-
  EmbedMatches is true, by lists.
-/
import Derived.Test.YtapfdafmhiilkaaE6
import Derived.Test.YtapfdafmhiilkaaFMatches
namespace Go.Proofs.Ytapfdafmhiilkaa
open Go Go.RowKit
set_option linter.unusedVariables false
set_option linter.unusedSectionVars false
set_option linter.unusedSimpArgs false

theorem fMatches_in (N : Nat) (l m : List Int) (hl : l.length ≤ 400000000) (hm : m.length = l.length) : ∀ (k i : Nat) (a : List Int), l.length - i < k → i ≤ l.length → a.length = l.length → a.drop i = m.drop i →
    fMatches_L2 N l l m m k a (i : Int) = some (Ctl.go ())
  | 0, _, _, h, _, _, _ => absurd h (Nat.not_lt_zero _)
  | k + 1, i, a, hk, hi, ha, hd => by
    unfold fMatches_L2
    by_cases hn : i < l.length
    · rw [drop_e (show i < a.length by omega), drop_e (show i < m.length by omega)] at hd
      injection hd with h1 h2
      rw [if_pos (by omega), ixe (by omega), Option.bind_some, ixe (by omega), Option.bind_some, if_neg (by rw [h1]; simp), ixe hn, Option.bind_some, Option.bind_some, if_neg (by simp), Option.bind_some, setxe _ (by omega), Option.bind_some, wne i (by omega)]
      exact fMatches_in N l m hl hm k (i + 1) _ (by omega) (by omega) (by simp [ha]) (by rw [List.drop_set_of_lt (by omega)]; exact h2)
    · rw [if_neg (by omega)]

theorem fMatches_true (l : List Int) : ∃ N, fMatches N l = some true := by
  refine ⟨10000, ?_⟩
  unfold fMatches
  by_cases h : 2000 < l.length
  · rw [if_pos (by omega), kWorks_eq _ (by omega)]; rfl
  rw [if_neg (by omega), apx_nil l (by omega), Option.bind_some, rMatch_eq 10000 l (by omega) (by omega), Option.bind_some]
  have hin : fMatches_L2 10000 l l (matchS l) (matchS l) 10000 (matchS l) 0 = some (Ctl.go ()) := fMatches_in 10000 l (matchS l) (by omega) (matchS_len l) 10000 0 (matchS l) (by omega) (Nat.zero_le _) (matchS_len l) rfl
  have hr : ∀ k (i : Int), i < 2 → fMatches_L1 10000 l l (matchS l) (k + 1) i = fMatches_L1 10000 l l (matchS l) k (IntKind.i64.wrap (i + 1)) := by
    intro k i hi
    conv => lhs; unfold fMatches_L1
    rw [if_pos hi, pMatch_eq 10000 l (by omega) (by omega), Option.bind_some, if_neg (fun e => e rfl), hin]
    rfl
  have hout : fMatches_L1 10000 l l (matchS l) 10000 0 = some (Ctl.go ()) := by
    rw [hr 9999 0 (by decide), show IntKind.i64.wrap ((0 : Int) + 1) = 1 by decide, hr 9998 1 (by decide), show IntKind.i64.wrap ((1 : Int) + 1) = 2 by decide]
    unfold fMatches_L1
    rfl
  rw [hout]
  simp only [Option.bind_some]
  rw [pBase_eq 10000 l (by omega) (by omega), rBase_eq 10000 l (by omega) (by omega)]
  simp only [Option.bind_some, if_true]
  rw [kWorks_eq _ (by omega)]
  rfl
end Go.Proofs.Ytapfdafmhiilkaa
