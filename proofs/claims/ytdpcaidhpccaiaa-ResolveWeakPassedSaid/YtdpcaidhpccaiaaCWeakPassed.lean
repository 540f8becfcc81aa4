/-
  ResolveWeakPassed, called.
-/
import Derived.Test.YtdpcaidhpccaiaaS7
namespace Go.Proofs.Ytdpcaidhpccaiaa
open Go Go.RowKit
set_option linter.unusedVariables false
theorem callWeakPassed (W : World) (x0 : List Int) (u0 : ∀ x ∈ x0, 0 ≤ x ∧ x ≤ 255) (A0 : Option Addr) (c0 : Nat) (hv0 : Vw [] .u8 W A0 c0 x0) (x1 : Int) (u1 : 0 ≤ x1 ∧ x1 ≤ 255) (x2 : List Int) (u2 : ∀ x ∈ x2, 0 ≤ x ∧ x ≤ 65535) (A2 : Option Addr) (c2 : Nat) (hv2 : Vw [] .u16 W A2 c2 x2) : Calls Try.prog 5 #[.slice A0 x0.length c0, .int .u8 x1, .slice A2 x2.length c2] W fun e w => e = .returned (.bool true) ∧ Below W.heap.size W w := by
  obtain ⟨N, hN⟩ := fWeakPassed_true x0 x1 x2
  refine (fWeakPassed_ok N x0 x1 x2 A0 c0 A2 c2 true hN W hv0 hv2).mono ?_
  rintro e w ⟨v, rfl, rfl, hS⟩
  exact ⟨rfl, hS.below⟩
end Go.Proofs.Ytdpcaidhpccaiaa
