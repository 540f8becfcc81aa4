/-
  SegmentMarks, called.
-/
import Derived.Test.YtdbimchiecdkoaaSY
namespace Go.Proofs.Ytdbimchiecdkoaa
open Go Go.RowKit
set_option linter.unusedVariables false
theorem callMarks (W : World) (x0 : List Int) (u0 : ∀ x ∈ x0, -2147483648 ≤ x ∧ x ≤ 2147483647) (A0 : Option Addr) (c0 : Nat) (hv0 : Vw [] .i32 W A0 c0 x0) (x1 : Int) (u1 : 0 ≤ x1 ∧ x1 ≤ 65535) : Calls Try.prog 7 #[.slice A0 x0.length c0, .int .u16 x1] W fun e w => e = .returned (.bool true) ∧ Below W.heap.size W w := by
  obtain ⟨N, hN⟩ := fMarks_true' x0 u0 x1 u1
  refine (fMarks_ok N x0 x1 A0 c0 true hN W hv0).mono ?_
  rintro e w ⟨v, rfl, rfl, hS⟩
  exact ⟨rfl, hS.below⟩
end Go.Proofs.Ytdbimchiecdkoaa
