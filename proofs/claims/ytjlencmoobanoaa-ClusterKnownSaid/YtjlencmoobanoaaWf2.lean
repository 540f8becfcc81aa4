/-
  A number that fits its kind lies in the kind's bounds.
-/
import Derived.Test.YtjlencmoobanoaaRefU
import Derived.ProofKit
namespace Go.Proofs.Ytjlencmoobanoaa
open Go Go.RowKit

theorem i32_of {n : Int} (h : (Lit.int .i32 n).wf = true) : I32 n := by
  simp only [Lit.wf, IntKind.min, IntKind.max, IntKind.signed, IntKind.bits, Bool.and_eq_true, decide_eq_true_eq, if_true] at h
  exact ⟨by have := h.1; simpa using this, by have := h.2; simpa using this⟩

theorem u8_of {n : Int} (h : (Lit.int .u8 n).wf = true) : 0 ≤ n ∧ n ≤ 255 := by
  simp [Lit.wf, IntKind.min, IntKind.max, IntKind.signed, IntKind.bits, Bool.and_eq_true, decide_eq_true_eq] at h
  omega
end Go.Proofs.Ytjlencmoobanoaa
