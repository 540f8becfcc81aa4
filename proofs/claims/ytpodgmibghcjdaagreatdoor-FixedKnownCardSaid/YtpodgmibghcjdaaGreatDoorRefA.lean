/-
  The document's sums and differences (calamusref01.Add, Sub).
-/
import Derived.Test.YtpodgmibghcjdaaGreatDoorFace
namespace Go.Proofs.YtpodgmibghcjdaaGreatDoor
open Go Go.RowKit

theorem refAdd_any (a b : Int) (ha : I64 a) (hb : I64 b) (w : World) :
    Calls Tryz.prog 37 #[.int .i64 a, .int .i64 b] w fun e w' => e = sumE (a + b) ∧ w = w' := by
  obtain ⟨S, hS⟩ : ∃ S, wrap64 (a + b) = S := ⟨_, rfl⟩
  obtain ⟨ha1, ha2⟩ := ha
  obtain ⟨hb1, hb2⟩ := hb
  have hcase : (0 ≤ a ∧ 0 ≤ b ∧ S < 0 ∧ sumE (a + b) = pair 0 10) ∨ (0 ≤ a ∧ 0 ≤ b ∧ 0 ≤ S ∧ sumE (a + b) = pair S 0) ∨
      (a < 0 ∧ b < 0 ∧ 0 ≤ S ∧ sumE (a + b) = pair 0 10) ∨ (a < 0 ∧ b < 0 ∧ S < 0 ∧ sumE (a + b) = pair S 0) ∨
      (0 ≤ a ∧ b < 0 ∧ sumE (a + b) = pair (a + b) 0) ∨ (a < 0 ∧ 0 ≤ b ∧ sumE (a + b) = pair (a + b) 0) := by
    have hw : S = (a + b + 9223372036854775808) % 18446744073709551616 - 9223372036854775808 := by rw [← hS]; unfold wrap64; rfl
    have hp : ∀ n : Int, -9223372036854775808 ≤ n → n ≤ 9223372036854775807 → sumE n = pair n 0 := fun n h1 h2 => by unfold sumE; exact if_pos ⟨h1, h2⟩
    have hn : ∀ n : Int, ¬ (-9223372036854775808 ≤ n ∧ n ≤ 9223372036854775807) → sumE n = pair 0 10 := fun n h => by unfold sumE; exact if_neg h
    by_cases h1 : 0 ≤ a <;> by_cases h2 : 0 ≤ b
    · by_cases h3 : a + b ≤ 9223372036854775807
      · have e : S = a + b := by omega
        exact .inr (.inl ⟨h1, h2, by omega, by rw [e]; exact hp _ (by omega) (by omega)⟩)
      · exact .inl ⟨h1, h2, by omega, hn _ (by omega)⟩
    · exact .inr (.inr (.inr (.inr (.inl ⟨h1, by omega, hp _ (by omega) (by omega)⟩))))
    · exact .inr (.inr (.inr (.inr (.inr ⟨by omega, h2, hp _ (by omega) (by omega)⟩))))
    · by_cases h3 : -9223372036854775808 ≤ a + b
      · have e : S = a + b := by omega
        exact .inr (.inr (.inr (.inl ⟨by omega, by omega, by omega, by rw [e]; exact hp _ (by omega) (by omega)⟩)))
      · exact .inr (.inr (.inl ⟨by omega, by omega, by omega, hn _ (by omega)⟩))
  have hSr : I64 S := by rw [← hS]; unfold wrap64 I64; omega
  obtain ⟨hs1, hs2⟩ := hSr
  rcases hcase with ⟨h1, h2, h3, he⟩ | ⟨h1, h2, h3, he⟩ | ⟨h1, h2, h3, he⟩ | ⟨h1, h2, h3, he⟩ | ⟨h1, h2, he⟩ | ⟨h1, h2, he⟩
  all_goals
    have HE := Lib.hid he
    clear he
    go_enter Tryz.func37, Tryz.ntmps37
    go_wp2
    go_ret2
    exact ⟨by rw [HE.out]; rfl, rfl⟩

theorem refSub_any (a b : Int) (ha : I64 a) (hb : I64 b) (w : World) :
    Calls Tryz.prog 39 #[.int .i64 a, .int .i64 b] w fun e w' => e = sumE (a - b) ∧ w = w' := by
  obtain ⟨ha1, ha2⟩ := ha
  obtain ⟨hb1, hb2⟩ := hb
  by_cases hm : b = -9223372036854775808
  · subst hm
    rw [show a - -9223372036854775808 = a + 9223372036854775808 by omega]
    by_cases h0 : 0 ≤ a
    · have HE : Hid (sumE (a + 9223372036854775808) = pair 0 10) := Lib.hid (by unfold sumE; exact if_neg (by omega))
      go_enter Tryz.func39, Tryz.ntmps39
      go_wp2
      go_ret2
      exact ⟨by rw [HE.out]; rfl, rfl⟩
    · have HE : Hid (sumE (a + 9223372036854775808) = pair (a + 9223372036854775808) 0) := Lib.hid (by unfold sumE; exact if_pos (by omega))
      go_enter Tryz.func39, Tryz.ntmps39
      go_wp2
      go_ret2
      exact ⟨by rw [HE.out]; rfl, rfl⟩
  · have hmb : (b == -9223372036854775808) = false := by simp [hm]
    have hadd := refAdd_any a (-b) ⟨ha1, ha2⟩ ⟨by omega, by omega⟩ w
    have HE : Hid (sumE (a + -b) = sumE (a - b)) := Lib.hid (by rw [show a + -b = a - b by omega])
    have hcase : (∃ v, sumE (a + -b) = pair v 0) ∨ sumE (a + -b) = pair 0 10 := by
      unfold sumE
      by_cases h : -9223372036854775808 ≤ a + -b ∧ a + -b ≤ 9223372036854775807
      · exact .inl ⟨_, if_pos h⟩
      · exact .inr (if_neg h)
    have hb3 : b ≠ -9223372036854775808 := hm
    have hlo : -9223372036854775807 ≤ b := by omega
    rcases hcase with ⟨v, hv⟩ | hv
    all_goals
      rw [hv] at hadd HE
      unfold pair at hadd HE
      have HA := Lib.hid hadd
      clear hadd hv hm hb3
      go_enter Tryz.func39, Tryz.ntmps39
      go_wp2_with fail
      refine HA.out.mono ?_
      rintro e w' ⟨rfl, rfl⟩
      go_wp2_with fail
      go_ret2
      exact ⟨HE.out, rfl⟩
end Go.Proofs.YtpodgmibghcjdaaGreatDoor
