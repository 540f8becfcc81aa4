/-
  EmbedSequences, called.
-/
import Derived.Test.YtjndolnjhbgflaaH6
namespace Go.Proofs.Ytjndolnjhbgflaa
open Go Go.RowKit
set_option linter.unusedVariables false
theorem callSequences (W : World) (x0 : List Int) (u0 : ∀ x ∈ x0, 0 ≤ x ∧ x ≤ 255) (A0 : Option Addr) (c0 : Nat) (hv0 : Vw [] .u8 W A0 c0 x0) (x1 : List Int) (u1 : ∀ x ∈ x1, 0 ≤ x ∧ x ≤ 255) (A1 : Option Addr) (c1 : Nat) (hv1 : Vw [] .u8 W A1 c1 x1) (x2 : Int) (u2 : 0 ≤ x2 ∧ x2 ≤ 255) : Calls Try.prog 3 #[.slice A0 x0.length c0, .slice A1 x1.length c1, .int .u8 x2] W fun e w => e = .returned (.bool true) ∧ Below W.heap.size W w := by
  obtain ⟨N, hN⟩ := fSequences_true x0 x1 x2 (fun x hx => (u1 x hx).1) u2.1
  refine (fSequences_ok N x0 x1 x2 A0 c0 A1 c1 true hN W hv0 hv1).mono ?_
  rintro e w ⟨v, rfl, rfl, hS⟩
  exact ⟨rfl, hS.below⟩
end Go.Proofs.Ytjndolnjhbgflaa
