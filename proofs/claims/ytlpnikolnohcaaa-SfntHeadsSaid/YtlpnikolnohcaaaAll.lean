/-
  The document's All.
-/
import Derived.Test.YtlpnikolnohcaaaNum
namespace Go.Proofs.Ytlpnikolnohcaaa
open Go Go.RowKit

/-- are n bytes from a place on bytes of a row? -/
def allB (N : Nat) (a n : Int) : Bool := decide (0 ≤ a ∧ 0 ≤ n ∧ a ≤ N ∧ n ≤ N - a)

set_option maxRecDepth 20000 in
theorem all_any (w : World) (A : Option Addr) (N c : Nat) (hN : N ≤ 1000000000) (a n : Int) :
    Calls Try.prog 28 #[.slice A N c, .int .i64 a, .int .i64 n] w fun e w' => e = .returned (.bool (allB N a n)) ∧ w = w' := by
  obtain ⟨R, hR⟩ : ∃ R, R = allB N a n := ⟨_, rfl⟩
  rw [← hR]
  unfold allB at hR
  by_cases h1 : 0 ≤ a
  · by_cases h2 : 0 ≤ n
    · by_cases h3 : a ≤ N
      · obtain ⟨d, hd⟩ : ∃ d, d = (N : Int) - a := ⟨_, rfl⟩
        have q : wrap64 ((N : Int) - a) = d := by rw [hd]; unfold wrap64; omega
        have b1 : (0 ≤ a) = True := eq_true h1
        have b2 : (0 ≤ n) = True := eq_true h2
        have b3 : (a ≤ (N : Int)) = True := eq_true h3
        have HR : Hid (R = decide (n ≤ (N : Int) - a)) := Lib.hid (by rw [hR]; congr 1; simp [h1, h2, h3])
        rw [← hd] at HR
        by_cases h4 : n ≤ d
        · have b4 : (n ≤ d) = True := eq_true h4
          have HV : Hid (R = true) := Lib.hid (by rw [HR.out]; simp [h4])
          clear hR h1 h2 h3 h4 hd
          go_enter Try.func28, Try.ntmps28
          go_wp2_with fail
          go_ret
          exact ⟨by rw [HV.out]; rfl, rfl⟩
        · have b4 : (n ≤ d) = False := eq_false h4
          have HV : Hid (R = false) := Lib.hid (by rw [HR.out]; simp [h4])
          clear hR h1 h2 h3 h4 hd
          go_enter Try.func28, Try.ntmps28
          go_wp2_with fail
          go_ret
          exact ⟨by rw [HV.out]; rfl, rfl⟩
      · have b1 : (0 ≤ a) = True := eq_true h1
        have b2 : (0 ≤ n) = True := eq_true h2
        have b3 : (a ≤ (N : Int)) = False := eq_false h3
        have HV : Hid (R = false) := Lib.hid (by rw [hR]; simp [h3])
        clear hR h1 h2 h3
        go_enter Try.func28, Try.ntmps28
        go_wp2_with fail
        go_ret
        exact ⟨by rw [HV.out]; rfl, rfl⟩
    · have b1 : (0 ≤ a) = True := eq_true h1
      have b2 : (0 ≤ n) = False := eq_false h2
      have HV : Hid (R = false) := Lib.hid (by rw [hR]; simp [h2])
      clear hR h1 h2
      go_enter Try.func28, Try.ntmps28
      go_wp2_with fail
      go_ret
      exact ⟨by rw [HV.out]; rfl, rfl⟩
  · have b1 : (0 ≤ a) = False := eq_false h1
    have HV : Hid (R = false) := Lib.hid (by rw [hR]; simp [h1])
    clear hR h1
    go_enter Try.func28, Try.ntmps28
    go_wp2_with fail
    go_ret
    exact ⟨by rw [HV.out]; rfl, rfl⟩
end Go.Proofs.Ytlpnikolnohcaaa
