/-
  ItemiseParts, called.
-/
import Derived.Test.YtkcmemldhbifdaaDoorID
namespace Go.Proofs.YtkcmemldhbifdaaDoor
open Go Go.RowKit
set_option linter.unusedVariables false
theorem callParts (W : World) (x0 : List Int) (u0 : ∀ x ∈ x0, -2147483648 ≤ x ∧ x ≤ 2147483647) (A0 : Option Addr) (c0 : Nat) (hv0 : Vw [] .i32 W A0 c0 x0) (x1 : List Int) (u1 : ∀ x ∈ x1, -2147483648 ≤ x ∧ x ≤ 2147483647) (A1 : Option Addr) (c1 : Nat) (hv1 : Vw [] .i32 W A1 c1 x1) (x2 : Int) (u2 : 0 ≤ x2 ∧ x2 ≤ 255) (hm : MirW W) : Calls Tryd.prog 6 #[.slice A0 x0.length c0, .slice A1 x1.length c1, .int .u8 x2] W fun e w => e = .returned (.bool true) ∧ Below W.heap.size W w := by
  obtain ⟨N, hN⟩ := fParts_true' x0 x1 x2
  refine (fParts_ok N x0 x1 x2 A0 c0 A1 c1 true hN W hv0 hv1 ⟨hm, List.not_mem_nil⟩).mono ?_
  rintro e w ⟨v, rfl, rfl, hS⟩
  exact ⟨rfl, hS.below⟩
end Go.Proofs.YtkcmemldhbifdaaDoor
