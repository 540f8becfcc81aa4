/-
  JoiningPasses, called.
-/
import Derived.Test.YtbdhgjaoojimmaaDoorJk
namespace Go.Proofs.YtbdhgjaoojimmaaDoor
open Go Go.RowKit
set_option linter.unusedVariables false
theorem callPasses (W : World) (x0 : List Int) (u0 : ∀ x ∈ x0, -2147483648 ≤ x ∧ x ≤ 2147483647) (A0 : Option Addr) (c0 : Nat) (hv0 : Vw [] .i32 W A0 c0 x0) (x1 : Int) (hm : MirW W) : Calls Tryd.prog 5 #[.slice A0 x0.length c0, .int .i64 x1] W fun e w => e = .returned (.bool true) ∧ Below W.heap.size W w := by
  obtain ⟨N, hN⟩ := fPasses_true' x0 x1
  refine (fPasses_ok N x0 x1 A0 c0 true hN W hv0 ⟨hm, List.not_mem_nil⟩).mono ?_
  rintro e w ⟨v, rfl, rfl, hS⟩
  exact ⟨rfl, hS.below⟩
end Go.Proofs.YtbdhgjaoojimmaaDoor
