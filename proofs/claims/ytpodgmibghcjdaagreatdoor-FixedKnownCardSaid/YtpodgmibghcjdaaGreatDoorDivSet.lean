/-
  What Div64 lays before its two rounds, as numbers.
-/
import Derived.Test.YtpodgmibghcjdaaGreatDoorDivMath
import Derived.Lib.BitFns
import Derived.Laws.BitsAllLaws
import Derived.Laws.Bits64
import Derived.IntWalk
namespace Go.Proofs.YtpodgmibghcjdaaGreatDoor.Kn
open Go

theorem bitLen_bounds : ∀ (n x : Nat), x < 2 ^ n → n ≤ 64 → x ≠ 0 → 1 ≤ Lib.bitLen x ∧ Lib.bitLen x ≤ n ∧ 2 ^ (Lib.bitLen x - 1) ≤ x ∧ x < 2 ^ Lib.bitLen x := by
  intro n
  induction n with
  | zero => intro x h _ h0; simp at h; exact absurd h h0
  | succ n ih =>
    intro x h hn h0
    have h64 : x < 2 ^ 64 := Nat.lt_of_lt_of_le h (Nat.pow_le_pow_right (by omega) hn)
    rw [Lib.bitLen_half x h0 h64]
    by_cases h1 : x / 2 = 0
    · have : x = 1 := by omega
      subst this
      have e : Lib.bitLen (1 / 2) = 0 := by decide
      rw [e]; simp
    · obtain ⟨a, b, c, d⟩ := ih (x / 2) (by rw [Nat.pow_succ] at h; omega) (by omega) h1
      generalize Lib.bitLen (x / 2) = k at *
      obtain ⟨k, rfl⟩ : ∃ j, k = j + 1 := ⟨k - 1, by omega⟩
      refine ⟨by omega, by omega, ?_, ?_⟩
      · have e : 2 ^ (1 + (k + 1) - 1) = 2 ^ k * 2 := by rw [show 1 + (k + 1) - 1 = k + 1 by omega, Nat.pow_succ]
        rw [e]
        simp at c
        omega
      · have e : 2 ^ (1 + (k + 1)) = 2 ^ (k + 1) * 2 := by rw [show 1 + (k + 1) = (k + 1) + 1 by omega, Nat.pow_succ]
        rw [e]; omega

/-- the shift, the divisor's digits, the dividend's three upper digits -/
theorem setup (hi lo y : Nat) (h1 : hi < y) (h2 : y < 18446744073709551616) (h3 : lo < 18446744073709551616) :
    ∃ s n1 n0 u u1 u0 : Nat, s ≤ 63 ∧ (64 - (Lib.bitLen y : Int)) = (s : Int) ∧ y * 2 ^ s = n1 * 4294967296 + n0 ∧ n0 < 4294967296 ∧ 2147483648 ≤ n1 ∧ n1 < 4294967296 ∧
      u = hi * 2 ^ s + lo / 2 ^ (64 - s) ∧ hi * 2 ^ s < 18446744073709551616 ∧ lo / 2 ^ (64 - s) < 2 ^ s ∧ u < n1 * 4294967296 + n0 ∧
      lo * 2 ^ s % 18446744073709551616 = u1 * 4294967296 + u0 ∧ u1 < 4294967296 ∧ u0 < 4294967296 ∧
      (hi * 18446744073709551616 + lo) * 2 ^ s = u * 18446744073709551616 + (u1 * 4294967296 + u0) := by
  obtain ⟨a, b, c, d⟩ := bitLen_bounds 64 y (by simpa using h2) (by omega) (by omega)
  generalize Lib.bitLen y = k at *
  have hs : 64 - k ≤ 63 := by omega
  have hw := words hi lo (64 - k) hs h3
  have e64 : (18446744073709551616 : Nat) = 2 ^ (64 - (64 - k)) * 2 ^ (64 - k) := by rw [← Nat.pow_add, show 64 - (64 - k) + (64 - k) = 64 by omega]
  have hk : 64 - (64 - k) = k := by omega
  have hyl : 9223372036854775808 ≤ y * 2 ^ (64 - k) := by
    have : 2 ^ (k - 1) * 2 ^ (64 - k) ≤ y * 2 ^ (64 - k) := Nat.mul_le_mul_right _ c
    rw [← Nat.pow_add, show k - 1 + (64 - k) = 63 by omega] at this
    simpa using this
  have hyu : y * 2 ^ (64 - k) < 18446744073709551616 := by
    have : y * 2 ^ (64 - k) < 2 ^ k * 2 ^ (64 - k) := Nat.mul_lt_mul_of_pos_right d (Nat.two_pow_pos _)
    rw [← Nat.pow_add, show k + (64 - k) = 64 by omega] at this
    simpa using this
  have hq : lo / 2 ^ (64 - (64 - k)) < 2 ^ (64 - k) := by
    rw [Nat.div_lt_iff_lt_mul (Nat.two_pow_pos _), Nat.mul_comm, ← e64]; exact h3
  have hu : hi * 2 ^ (64 - k) + 2 ^ (64 - k) ≤ y * 2 ^ (64 - k) := by
    have : (hi + 1) * 2 ^ (64 - k) ≤ y * 2 ^ (64 - k) := Nat.mul_le_mul_right _ (by omega)
    rwa [Nat.add_mul, Nat.one_mul] at this
  have hm : lo * 2 ^ (64 - k) % 18446744073709551616 < 18446744073709551616 := Nat.mod_lt _ (by omega)
  refine ⟨64 - k, y * 2 ^ (64 - k) / 4294967296, y * 2 ^ (64 - k) % 4294967296, hi * 2 ^ (64 - k) + lo / 2 ^ (64 - (64 - k)),
    lo * 2 ^ (64 - k) % 18446744073709551616 / 4294967296, lo * 2 ^ (64 - k) % 18446744073709551616 % 4294967296, hs, by omega, ?_, ?_, ?_, ?_, rfl, ?_, hq, ?_, ?_, ?_, ?_, ?_⟩
  all_goals generalize y * 2 ^ (64 - k) = Y at *
  all_goals generalize lo * 2 ^ (64 - k) % 18446744073709551616 = L at *
  all_goals generalize lo / 2 ^ (64 - (64 - k)) = M at *
  all_goals generalize hH : hi * 2 ^ (64 - k) = H at *
  all_goals generalize hT : 2 ^ (64 - k) = T at *
  · omega
  · omega
  · omega
  · omega
  · omega
  · omega
  · omega
  · omega
  · omega
  · rw [hw]; omega

theorem wrap_of (n : Nat) (h : n < 18446744073709551616) : IntKind.u64.wrap ((n : Nat) : Int) = (n : Int) := by
  rw [IntKind.wrap_u64]; omega

theorem or_of (a b s : Nat) (ha : a * 2 ^ s < 18446744073709551616) (hb : b < 2 ^ s) (hs : s ≤ 63) :
    bits BinOp.or IntKind.u64 ((a * 2 ^ s : Nat) : Int) (b : Int) = ((a * 2 ^ s + b : Nat) : Int) := by
  have hb2 : b < 18446744073709551616 := Nat.lt_of_lt_of_le hb (by
    have : 2 ^ s ≤ 2 ^ 64 := Nat.pow_le_pow_right (by omega) (by omega)
    simpa using this)
  rw [u64_or_nat _ _ ha hb2, nat_join s _ _ (by simp) hb]

theorem low_of (Y n1 n0 : Nat) (hY : Y = n1 * 4294967296 + n0) (h0 : n0 < 4294967296) (h1 : n1 < 4294967296) :
    bits BinOp.and IntKind.u64 (Y : Int) 4294967295 = (n0 : Int) := by
  have h := u64_and_nat Y 4294967295 (by omega) (by omega)
  rw [show ((4294967295 : Nat) : Int) = 4294967295 from rfl] at h
  rw [h]
  have e : Y &&& 4294967295 = Y % 4294967296 := Nat.and_two_pow_sub_one_eq_mod Y 32
  rw [e]; omega
end Go.Proofs.YtpodgmibghcjdaaGreatDoor.Kn
