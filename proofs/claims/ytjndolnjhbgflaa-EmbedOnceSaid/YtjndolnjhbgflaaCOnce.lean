/-
  EmbedOnce, called.
-/
import Derived.Test.YtjndolnjhbgflaaHO
namespace Go.Proofs.Ytjndolnjhbgflaa
open Go Go.RowKit
set_option linter.unusedVariables false
theorem callOnce (W : World) (x0 : List Int) (u0 : ∀ x ∈ x0, 0 ≤ x ∧ x ≤ 255) (A0 : Option Addr) (c0 : Nat) (hv0 : Vw [] .u8 W A0 c0 x0) (x1 : Int) (u1 : 0 ≤ x1 ∧ x1 ≤ 255) : Calls Try.prog 4 #[.slice A0 x0.length c0, .int .u8 x1] W fun e w => e = .returned (.bool true) ∧ Below W.heap.size W w := by
  obtain ⟨N, hN⟩ := fOnce_true x0 x1 u1
  refine (fOnce_ok N x0 x1 A0 c0 true hN W hv0).mono ?_
  rintro e w ⟨v, rfl, rfl, hS⟩
  exact ⟨rfl, hS.below⟩
end Go.Proofs.Ytjndolnjhbgflaa
