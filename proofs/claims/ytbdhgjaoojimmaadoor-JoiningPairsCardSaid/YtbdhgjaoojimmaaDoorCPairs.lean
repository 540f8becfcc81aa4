/-
  JoiningPairs, called.
-/
import Derived.Test.YtbdhgjaoojimmaaDoorJk
namespace Go.Proofs.YtbdhgjaoojimmaaDoor
open Go Go.RowKit
set_option linter.unusedVariables false
theorem callPairs (W : World) (x0 : Int) (x1 : Int) (hm : MirW W) : Calls Tryd.prog 4 #[.int .i32 x0, .int .i32 x1] W fun e w => e = .returned (.bool true) ∧ Below W.heap.size W w := by
  obtain ⟨N, hN⟩ := fPairs_true' x0 x1
  refine (fPairs_ok N x0 x1 true hN W ⟨hm, List.not_mem_nil⟩).mono ?_
  rintro e w ⟨v, rfl, rfl, hS⟩
  exact ⟨rfl, hS.below⟩
end Go.Proofs.YtbdhgjaoojimmaaDoor
