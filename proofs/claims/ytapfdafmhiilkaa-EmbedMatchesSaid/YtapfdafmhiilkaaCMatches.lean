/-
  EmbedMatches, called.
-/
import Derived.Test.YtapfdafmhiilkaaE11
namespace Go.Proofs.Ytapfdafmhiilkaa
open Go Go.RowKit
set_option linter.unusedVariables false
theorem callMatches (W : World) (x0 : List Int) (u0 : ∀ x ∈ x0, 0 ≤ x ∧ x ≤ 255) (A0 : Option Addr) (c0 : Nat) (hv0 : Vw [] .u8 W A0 c0 x0) : Calls Try.prog 3 #[.slice A0 x0.length c0] W fun e w => e = .returned (.bool true) ∧ Below W.heap.size W w := by
  obtain ⟨N, hN⟩ := fMatches_true x0 
  refine (fMatches_ok N x0 A0 c0 true hN W hv0).mono ?_
  rintro e w ⟨v, rfl, rfl, hS⟩
  exact ⟨rfl, hS.below⟩
end Go.Proofs.Ytapfdafmhiilkaa
