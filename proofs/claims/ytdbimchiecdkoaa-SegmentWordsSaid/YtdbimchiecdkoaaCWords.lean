/-
  SegmentWords, called.
-/
import Derived.Test.YtdbimchiecdkoaaSX
namespace Go.Proofs.Ytdbimchiecdkoaa
open Go Go.RowKit
set_option linter.unusedVariables false
theorem callWords (W : World) (x0 : List Int) (u0 : ∀ x ∈ x0, 0 ≤ x ∧ x ≤ 255) (A0 : Option Addr) (c0 : Nat) (hv0 : Vw [] .u8 W A0 c0 x0) : Calls Try.prog 6 #[.slice A0 x0.length c0] W fun e w => e = .returned (.bool true) ∧ Below W.heap.size W w := by
  obtain ⟨N, hN⟩ := fWords_true' x0 u0
  refine (fWords_ok N x0 A0 c0 true hN W hv0).mono ?_
  rintro e w ⟨v, rfl, rfl, hS⟩
  exact ⟨rfl, hS.below⟩
end Go.Proofs.Ytdbimchiecdkoaa
