/-
  EmbedRuns, called.
-/
import Derived.Test.YtjndolnjhbgflaaHR
namespace Go.Proofs.Ytjndolnjhbgflaa
open Go Go.RowKit
set_option linter.unusedVariables false
theorem callRuns (W : World) : Calls Try.prog 7 #[] W fun e w => e = .returned (.bool true) ∧ Below W.heap.size W w := by
  obtain ⟨N, hN⟩ := fRuns_true 
  refine (fRuns_ok N  true hN W ).mono ?_
  rintro e w ⟨v, rfl, rfl, hS⟩
  exact ⟨rfl, hS.below⟩
end Go.Proofs.Ytjndolnjhbgflaa
