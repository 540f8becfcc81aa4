/-
  Signs of xor and and on int64; a number of 128 bits over one of 64; the plain words of fixed's quotients.
-/
import Derived.WalkKit
import Derived.Laws.Entries
import Derived.Test.YtpodgmibghcjdaaGreatDoorDivMath
namespace Go.Proofs.YtpodgmibghcjdaaGreatDoor
open Go Go.RowKit

def I64 (n : Int) : Prop := -9223372036854775808 ≤ n ∧ n ≤ 9223372036854775807

theorem bits_i64 (op : BinOp) (f : BitVec 64 → BitVec 64 → BitVec 64) (h : ∀ a b, bits op .i64 a b = IntKind.i64.wrap ((f (BitVec.ofInt 64 a) (BitVec.ofInt 64 b)).toNat : Int)) (a b : Int) :
    bits op .i64 a b = (f (BitVec.ofInt 64 a) (BitVec.ofInt 64 b)).toInt := by
  rw [h]
  have e : ∀ n : Int, IntKind.i64.wrap n = (n + 9223372036854775808) % 18446744073709551616 - 9223372036854775808 := fun n => by simp [IntKind.wrap, IntKind.bits, IntKind.signed]; split <;> omega
  rw [e]
  generalize f (BitVec.ofInt 64 a) (BitVec.ofInt 64 b) = v
  have := v.isLt
  rw [BitVec.toInt_eq_toNat_cond]
  split <;> omega

theorem xor_i64 (a b : Int) : bits .xor .i64 a b = (BitVec.ofInt 64 a ^^^ BitVec.ofInt 64 b).toInt := bits_i64 .xor (· ^^^ ·) (fun _ _ => rfl) a b
theorem and_i64 (a b : Int) : bits .and .i64 a b = (BitVec.ofInt 64 a &&& BitVec.ofInt 64 b).toInt := bits_i64 .and (· &&& ·) (fun _ _ => rfl) a b

theorem toInt_i64 (v : BitVec 64) : I64 v.toInt := by
  have h1 := BitVec.toInt_lt (x := v)
  have h2 := BitVec.le_toInt (x := v)
  simp at h1 h2
  exact ⟨by omega, by omega⟩

theorem toInt_neg (v : BitVec 64) : v.toInt < 0 ↔ v.msb = true := by
  rw [BitVec.msb_eq_toInt]; simp

theorem msb_of (a : Int) (h : I64 a) : (BitVec.ofInt 64 a).msb = decide (a < 0) := by
  obtain ⟨h1, h2⟩ := h
  rw [BitVec.msb_eq_toInt, BitVec.toInt_ofInt]
  congr 1
  have : a.bmod (2 ^ 64) = a := by
    apply Int.bmod_eq_of_le <;> omega
  rw [this]

theorem xor_range (a b : Int) : I64 (bits .xor .i64 a b) := by rw [xor_i64]; exact toInt_i64 _
theorem and_range (a b : Int) : I64 (bits .and .i64 a b) := by rw [and_i64]; exact toInt_i64 _

theorem xor_neg (a b : Int) (ha : I64 a) (hb : I64 b) : bits .xor .i64 a b < 0 ↔ ¬ (a < 0 ↔ b < 0) := by
  rw [xor_i64, toInt_neg, BitVec.msb_xor, msb_of a ha, msb_of b hb]
  by_cases h1 : a < 0 <;> by_cases h2 : b < 0 <;> simp [h1, h2]

theorem and_neg (a b : Int) (ha : I64 a) (hb : I64 b) : bits .and .i64 a b < 0 ↔ a < 0 ∧ b < 0 := by
  rw [and_i64, toInt_neg, BitVec.msb_and, msb_of a ha, msb_of b hb]
  by_cases h1 : a < 0 <;> by_cases h2 : b < 0 <;> simp [h1, h2]

/-- is a quotient a b / c below 0 (or would be)? -/
def neg3 (a b c : Int) : Bool := xor (xor (decide (a < 0)) (decide (b < 0))) (decide (c < 0))

theorem xor3_neg (a b c : Int) (ha : I64 a) (hb : I64 b) (hc : I64 c) : bits .xor .i64 (bits .xor .i64 a b) c < 0 ↔ neg3 a b c = true := by
  rw [xor_neg _ _ (xor_range a b) hc, xor_neg a b ha hb]
  unfold neg3
  by_cases h1 : a < 0 <;> by_cases h2 : b < 0 <;> by_cases h3 : c < 0 <;> simp [h1, h2, h3]

/-- two words over one -/
theorem over_words (x d : Nat) (h0 : 0 < d) :
    (x / 18446744073709551616) / d * 18446744073709551616 + ((x / 18446744073709551616) % d * 18446744073709551616 + x % 18446744073709551616) / d = x / d ∧
    ((x / 18446744073709551616) % d * 18446744073709551616 + x % 18446744073709551616) % d = x % d ∧
    ((x / 18446744073709551616) % d * 18446744073709551616 + x % 18446744073709551616) / d < 18446744073709551616 := by
  have hx := Nat.div_add_mod x 18446744073709551616
  have hl := Nat.mod_lt x (show 0 < 18446744073709551616 by omega)
  generalize x / 18446744073709551616 = h at *
  generalize x % 18446744073709551616 = l at *
  have hd := Nat.div_add_mod h d
  have hr := Nat.mod_lt h h0
  generalize h / d = q at *
  generalize h % d = r at *
  subst hx
  have e : 18446744073709551616 * h + l = d * (q * 18446744073709551616) + (r * 18446744073709551616 + l) := by
    rw [← hd]
    have e1 : d * (q * 18446744073709551616) = d * q * 18446744073709551616 := (Nat.mul_assoc _ _ _).symm
    rw [e1]; generalize d * q = z at *; omega
  refine ⟨?_, ?_, ?_⟩
  · rw [e, Nat.mul_add_div h0]
  · rw [e, Nat.mul_add_mod]
  · rw [Nat.div_lt_iff_lt_mul h0]
    have : (r + 1) * 18446744073709551616 ≤ d * 18446744073709551616 := Nat.mul_le_mul_right _ hr
    rw [Nat.mul_comm 18446744073709551616 d]
    omega
end Go.Proofs.YtpodgmibghcjdaaGreatDoor
