/-
  ResolveCuts, called.
-/
import Derived.Test.YtdpcaidhpccaiaaS6
namespace Go.Proofs.Ytdpcaidhpccaiaa
open Go Go.RowKit
set_option linter.unusedVariables false
theorem callCuts (W : World) (x0 : List Int) (u0 : ∀ x ∈ x0, 0 ≤ x ∧ x ≤ 255) (A0 : Option Addr) (c0 : Nat) (hv0 : Vw [] .u8 W A0 c0 x0) (x1 : List Int) (u1 : ∀ x ∈ x1, 0 ≤ x ∧ x ≤ 255) (A1 : Option Addr) (c1 : Nat) (hv1 : Vw [] .u8 W A1 c1 x1) (x2 : Bool) (x3 : Int) (u3 : 0 ≤ x3 ∧ x3 ≤ 255) (x4 : Int) (u4 : 0 ≤ x4 ∧ x4 ≤ 255) (x5 : Int) (u5 : 0 ≤ x5 ∧ x5 ≤ 255) : Calls Try.prog 13 #[.slice A0 x0.length c0, .slice A1 x1.length c1, .bool x2, .int .u8 x3, .int .u8 x4, .int .u8 x5] W fun e w => e = .returned (.bool true) ∧ Below W.heap.size W w := by
  obtain ⟨N, hN⟩ := fCuts_true x0 x1 x2 x3 x4 x5 u3.1
  refine (fCuts_ok N x0 x1 x2 x3 x4 x5 A0 c0 A1 c1 true hN W hv0 hv1).mono ?_
  rintro e w ⟨v, rfl, rfl, hS⟩
  exact ⟨rfl, hS.below⟩
end Go.Proofs.Ytdpcaidhpccaiaa
