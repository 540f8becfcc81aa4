/-
  SegmentKnown, called.
-/
import Derived.Test.YtdbimchiecdkoaaGreatSK
namespace Go.Proofs.YtdbimchiecdkoaaGreat
open Go Go.RowKit
set_option linter.unusedVariables false
theorem callKnown (W : World) : Calls Tryz.prog 3 #[] W fun e w => e = .returned (.bool true) ∧ Below W.heap.size W w := by
  obtain ⟨N, hN⟩ := fKnown_true 
  refine (fKnown_ok N  true hN W ).mono ?_
  rintro e w ⟨v, rfl, rfl, hS⟩
  exact ⟨rfl, hS.below⟩
end Go.Proofs.YtdbimchiecdkoaaGreat
