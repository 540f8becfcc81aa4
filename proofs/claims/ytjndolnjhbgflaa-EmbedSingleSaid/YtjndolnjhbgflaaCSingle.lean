/-
  EmbedSingle, called.
-/
import Derived.Test.YtjndolnjhbgflaaHS
namespace Go.Proofs.Ytjndolnjhbgflaa
open Go Go.RowKit
set_option linter.unusedVariables false
theorem callSingle (W : World) (x0 : List Int) (u0 : ∀ x ∈ x0, 0 ≤ x ∧ x ≤ 255) (A0 : Option Addr) (c0 : Nat) (hv0 : Vw [] .u8 W A0 c0 x0) (x1 : Int) (u1 : 0 ≤ x1 ∧ x1 ≤ 255) (x2 : Int) (u2 : 0 ≤ x2 ∧ x2 ≤ 255) : Calls Try.prog 6 #[.slice A0 x0.length c0, .int .u8 x1, .int .u8 x2] W fun e w => e = .returned (.bool true) ∧ Below W.heap.size W w := by
  obtain ⟨N, hN⟩ := fSingle_true x0 x1 x2 u1.1 u2.1
  refine (fSingle_ok N x0 x1 x2 A0 c0 true hN W hv0).mono ?_
  rintro e w ⟨v, rfl, rfl, hS⟩
  exact ⟨rfl, hS.below⟩
end Go.Proofs.Ytjndolnjhbgflaa
