/-
  ResolveWeakKnown, called.
-/
import Derived.Test.YtdpcaidhpccaiaaS11
namespace Go.Proofs.Ytdpcaidhpccaiaa
open Go Go.RowKit
set_option linter.unusedVariables false
theorem callWeakKnown (W : World) : Calls Try.prog 8 #[] W fun e w => e = .returned (.bool true) ∧ Below W.heap.size W w := by
  obtain ⟨N, hN⟩ := fWeakKnown_true 
  refine (fWeakKnown_ok N  true hN W ).mono ?_
  rintro e w ⟨v, rfl, rfl, hS⟩
  exact ⟨rfl, hS.below⟩
end Go.Proofs.Ytdpcaidhpccaiaa
