/-
  JoiningKnown, called.
-/
import Derived.Test.YtbdhgjaoojimmaaDoorJk
namespace Go.Proofs.YtbdhgjaoojimmaaDoor
open Go Go.RowKit
set_option linter.unusedVariables false
theorem callKnown (W : World) (hm : MirW W) : Calls Tryd.prog 7 #[] W fun e w => e = .returned (.bool true) ∧ Below W.heap.size W w := by
  obtain ⟨N, hN⟩ := fKnown_true' 
  refine (fKnown_ok N  true hN W ⟨hm, List.not_mem_nil⟩).mono ?_
  rintro e w ⟨v, rfl, rfl, hS⟩
  exact ⟨rfl, hS.below⟩
end Go.Proofs.YtbdhgjaoojimmaaDoor
