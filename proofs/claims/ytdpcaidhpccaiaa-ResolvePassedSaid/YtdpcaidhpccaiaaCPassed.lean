/-
  ResolvePassed, called.
-/
import Derived.Test.YtdpcaidhpccaiaaS7
namespace Go.Proofs.Ytdpcaidhpccaiaa
open Go Go.RowKit
set_option linter.unusedVariables false
theorem callPassed (W : World) (x0 : List Int) (u0 : ∀ x ∈ x0, 0 ≤ x ∧ x ≤ 255) (A0 : Option Addr) (c0 : Nat) (hv0 : Vw [] .u8 W A0 c0 x0) (x1 : Int) (u1 : 0 ≤ x1 ∧ x1 ≤ 255) (x2 : Int) (u2 : 0 ≤ x2 ∧ x2 ≤ 255) (x3 : Int) (u3 : 0 ≤ x3 ∧ x3 ≤ 255) (x4 : List Int) (u4 : ∀ x ∈ x4, 0 ≤ x ∧ x ≤ 65535) (A4 : Option Addr) (c4 : Nat) (hv4 : Vw [] .u16 W A4 c4 x4) : Calls Try.prog 12 #[.slice A0 x0.length c0, .int .u8 x1, .int .u8 x2, .int .u8 x3, .slice A4 x4.length c4] W fun e w => e = .returned (.bool true) ∧ Below W.heap.size W w := by
  obtain ⟨N, hN⟩ := fPassed_true x0 x1 x2 x3 u1.1 x4
  refine (fPassed_ok N x0 x1 x2 x3 x4 A0 c0 A4 c4 true hN W hv0 hv4).mono ?_
  rintro e w ⟨v, rfl, rfl, hS⟩
  exact ⟨rfl, hS.below⟩
end Go.Proofs.Ytdpcaidhpccaiaa
