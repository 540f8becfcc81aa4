/-
  The document's Put.
-/
import Derived.Test.YtlpnikolnohcaaaPutL

namespace Go.Proofs.Ytlpnikolnohcaaa
open Go Go.RowKit

set_option maxRecDepth 20000 in
theorem refSize_any (w : World) (c : Nat) (hc : c < 256) : Calls Try.prog 65 #[.int .u8 (c : Int)] w fun e w' => e = .returned (.int .i64 ((sizeC c : Nat) : Int)) ∧ w = w' := by
  rcases (show c = 98 ∨ c = 72 ∨ c = 104 ∨ c = 73 ∨ (c ≠ 98 ∧ c ≠ 72 ∧ c ≠ 104 ∧ c ≠ 73) by omega) with rfl | rfl | rfl | rfl | ⟨h1, h2, h3, h4⟩
  · go_enter Try.func65, Try.ntmps65
    go_wp2_with fail
    go_ret
    exact ⟨rfl, rfl⟩
  · go_enter Try.func65, Try.ntmps65
    go_wp2_with fail
    go_ret
    exact ⟨rfl, rfl⟩
  · go_enter Try.func65, Try.ntmps65
    go_wp2_with fail
    go_ret
    exact ⟨rfl, rfl⟩
  · go_enter Try.func65, Try.ntmps65
    go_wp2_with fail
    go_ret
    exact ⟨rfl, rfl⟩
  · have b1 : ((c : Int) == 98) = false := by simp; omega
    have b2 : ((c : Int) == 72) = false := by simp; omega
    have b3 : ((c : Int) == 104) = false := by simp; omega
    have b4 : ((c : Int) == 73) = false := by simp; omega
    have HS : Hid (sizeC c = 0) := Lib.hid (by simp [sizeC, h1, h2, h3, h4])
    generalize sizeC c = z at HS ⊢
    clear h1 h2 h3 h4 hc
    go_enter Try.func65, Try.ntmps65
    go_wp2_with fail
    go_ret
    exact ⟨by rw [HS.out]; rfl, rfl⟩

set_option maxRecDepth 20000 in
theorem refFits_any (w : World) (c : Nat) (n : Int) : Calls Try.prog 64 #[.int .u8 (c : Int), .int .i64 n] w fun e w' => e = .returned (.bool (fitsC c n)) ∧ w = w' := by
  have key : ∀ (lo hi : Int), ∀ b, b = (decide (lo ≤ n) && decide (n ≤ hi)) → (lo ≤ n ∧ n ≤ hi ∧ b = true) ∨ (lo ≤ n ∧ ¬ n ≤ hi ∧ b = false) ∨ (¬ lo ≤ n ∧ b = false) := by
    intro lo hi b hb
    by_cases h1 : lo ≤ n
    · by_cases h2 : n ≤ hi
      · exact .inl ⟨h1, h2, by rw [hb]; simp [h1, h2]⟩
      · exact .inr (.inl ⟨h1, h2, by rw [hb]; simp [h2]⟩)
    · exact .inr (.inr ⟨h1, by rw [hb]; simp [h1]⟩)
  obtain ⟨R, hR⟩ : ∃ R, R = fitsC c n := ⟨_, rfl⟩
  rw [← hR]
  rcases (show c = 98 ∨ c = 72 ∨ c = 104 ∨ c = 73 ∨ (c ≠ 98 ∧ c ≠ 72 ∧ c ≠ 104 ∧ c ≠ 73) by omega) with rfl | rfl | rfl | rfl | ⟨h1, h2, h3, h4⟩
  · rcases key (0) 255 R (by rw [hR]; rfl) with ⟨g1, g2, g3⟩ | ⟨g1, g2, g3⟩ | ⟨g1, g3⟩
    · have b1 : ((0 : Int) ≤ n) = True := eq_true g1
      have b2 : (n ≤ 255) = True := eq_true g2
      have HS := Lib.hid g3
      clear g1 g2 g3 hR key
      go_enter Try.func64, Try.ntmps64
      go_wp2_with fail
      go_ret
      exact ⟨by rw [HS.out]; rfl, rfl⟩
    · have b1 : ((0 : Int) ≤ n) = True := eq_true g1
      have b2 : (n ≤ 255) = False := eq_false g2
      have HS := Lib.hid g3
      clear g1 g2 g3 hR key
      go_enter Try.func64, Try.ntmps64
      go_wp2_with fail
      go_ret
      exact ⟨by rw [HS.out]; rfl, rfl⟩
    · have b1 : ((0 : Int) ≤ n) = False := eq_false g1
      have HS := Lib.hid g3
      clear g1 g3 hR key
      go_enter Try.func64, Try.ntmps64
      go_wp2_with fail
      go_ret
      exact ⟨by rw [HS.out]; rfl, rfl⟩
  · rcases key (0) 65535 R (by rw [hR]; rfl) with ⟨g1, g2, g3⟩ | ⟨g1, g2, g3⟩ | ⟨g1, g3⟩
    · have b1 : ((0 : Int) ≤ n) = True := eq_true g1
      have b2 : (n ≤ 65535) = True := eq_true g2
      have HS := Lib.hid g3
      clear g1 g2 g3 hR key
      go_enter Try.func64, Try.ntmps64
      go_wp2_with fail
      go_ret
      exact ⟨by rw [HS.out]; rfl, rfl⟩
    · have b1 : ((0 : Int) ≤ n) = True := eq_true g1
      have b2 : (n ≤ 65535) = False := eq_false g2
      have HS := Lib.hid g3
      clear g1 g2 g3 hR key
      go_enter Try.func64, Try.ntmps64
      go_wp2_with fail
      go_ret
      exact ⟨by rw [HS.out]; rfl, rfl⟩
    · have b1 : ((0 : Int) ≤ n) = False := eq_false g1
      have HS := Lib.hid g3
      clear g1 g3 hR key
      go_enter Try.func64, Try.ntmps64
      go_wp2_with fail
      go_ret
      exact ⟨by rw [HS.out]; rfl, rfl⟩
  · rcases key (-32768) 32767 R (by rw [hR]; rfl) with ⟨g1, g2, g3⟩ | ⟨g1, g2, g3⟩ | ⟨g1, g3⟩
    · have b1 : ((-32768 : Int) ≤ n) = True := eq_true g1
      have b2 : (n ≤ 32767) = True := eq_true g2
      have HS := Lib.hid g3
      clear g1 g2 g3 hR key
      go_enter Try.func64, Try.ntmps64
      go_wp2_with fail
      go_ret
      exact ⟨by rw [HS.out]; rfl, rfl⟩
    · have b1 : ((-32768 : Int) ≤ n) = True := eq_true g1
      have b2 : (n ≤ 32767) = False := eq_false g2
      have HS := Lib.hid g3
      clear g1 g2 g3 hR key
      go_enter Try.func64, Try.ntmps64
      go_wp2_with fail
      go_ret
      exact ⟨by rw [HS.out]; rfl, rfl⟩
    · have b1 : ((-32768 : Int) ≤ n) = False := eq_false g1
      have HS := Lib.hid g3
      clear g1 g3 hR key
      go_enter Try.func64, Try.ntmps64
      go_wp2_with fail
      go_ret
      exact ⟨by rw [HS.out]; rfl, rfl⟩
  · rcases key (0) 4294967295 R (by rw [hR]; rfl) with ⟨g1, g2, g3⟩ | ⟨g1, g2, g3⟩ | ⟨g1, g3⟩
    · have b1 : ((0 : Int) ≤ n) = True := eq_true g1
      have b2 : (n ≤ 4294967295) = True := eq_true g2
      have HS := Lib.hid g3
      clear g1 g2 g3 hR key
      go_enter Try.func64, Try.ntmps64
      go_wp2_with fail
      go_ret
      exact ⟨by rw [HS.out]; rfl, rfl⟩
    · have b1 : ((0 : Int) ≤ n) = True := eq_true g1
      have b2 : (n ≤ 4294967295) = False := eq_false g2
      have HS := Lib.hid g3
      clear g1 g2 g3 hR key
      go_enter Try.func64, Try.ntmps64
      go_wp2_with fail
      go_ret
      exact ⟨by rw [HS.out]; rfl, rfl⟩
    · have b1 : ((0 : Int) ≤ n) = False := eq_false g1
      have HS := Lib.hid g3
      clear g1 g3 hR key
      go_enter Try.func64, Try.ntmps64
      go_wp2_with fail
      go_ret
      exact ⟨by rw [HS.out]; rfl, rfl⟩
  · have b1 : ((c : Int) == 98) = false := by simp; omega
    have b2 : ((c : Int) == 72) = false := by simp; omega
    have b3 : ((c : Int) == 104) = false := by simp; omega
    have b4 : ((c : Int) == 73) = false := by simp; omega
    have HS : Hid (R = false) := Lib.hid (by rw [hR]; simp [fitsC, h1, h2, h3, h4])
    clear h1 h2 h3 h4 hR key
    go_enter Try.func64, Try.ntmps64
    go_wp2_with fail
    go_ret
    exact ⟨by rw [HS.out]; rfl, rfl⟩
end Go.Proofs.Ytlpnikolnohcaaa
