/-
  What landed is the document's: Weak, Neutral, Levels by lists.
-/
import Derived.Test.YtdpcaidhpccaiaaPE1
namespace Go.Proofs.Ytdpcaidhpccaiaa
open Go Go.RowKit
set_option linter.unusedVariables false

theorem pWeak_eq (N : Nat) (l : List Int) (s : Int) (hl : l.length ≤ 400000000) (hN : l.length < N) : pWeak N l s = some (weakS l s) := pWeak_to l s hl hN
theorem pNeutral_eq (N : Nat) (l : List Int) (level sos eos : Int) (hv : 0 ≤ level) (hl : l.length ≤ 400000000) (hN : l.length < N) : pNeutral N l level sos eos = some (neutralS l level sos eos) := pNeutral_to l level sos eos hv hl hN
theorem pLvl_eq (N : Nat) (l : List Int) (level : Int) (hv : 0 ≤ level) (hv2 : level ≤ 255) (hl : l.length ≤ 400000000) (hN : l.length < N) : pLvl N l level = some (l.map (lvlC level)) := pLvl_to l level hv hv2 hl hN
end Go.Proofs.Ytdpcaidhpccaiaa
