/-
  Plain arithmetic: division of two words by one (Knuth's algorithm D at base 2^32, a divisor of two digits), 64 and 128 bits.
-/
namespace Go.Proofs.YtpodgmibghcjdaaGreatDoor.Kn

theorem qt_lt (y u u1 : Nat) (hu : u < y) (h1 : u1 < 4294967296) : (u * 4294967296 + u1) / y < 4294967296 := by
  rw [Nat.div_lt_iff_lt_mul (by omega)]
  have : (u + 1) * 4294967296 ≤ y * 4294967296 := Nat.mul_le_mul_right _ (by omega)
  omega

theorem more_iff (yn1 yn0 u u1 q r : Nat) (hy : 0 < yn1) (hq : q * yn1 + r = u) :
    4294967296 * r + u1 < q * yn0 ↔ (u * 4294967296 + u1) / (yn1 * 4294967296 + yn0) < q := by
  rw [Nat.div_lt_iff_lt_mul (by omega)]
  have e : q * (yn1 * 4294967296 + yn0) = (q * yn1) * 4294967296 + q * yn0 := by rw [Nat.mul_add, Nat.mul_assoc]
  rw [e]
  generalize q * yn1 = a at *
  generalize q * yn0 = b at *
  omega

theorem great_lt (y u u1 q : Nat) (hu : u < y) (h1 : u1 < 4294967296) (hq : 4294967296 ≤ q) : (u * 4294967296 + u1) / y < q :=
  Nat.lt_of_lt_of_le (qt_lt y u u1 hu h1) hq

theorem stop_le (yn1 yn0 u u1 q r : Nat) (hy : 0 < yn1) (hq : q * yn1 + r = u) (h0 : yn0 < 4294967296) (hu : u < yn1 * 4294967296 + yn0) (hr : 4294967296 ≤ r) :
    q < 4294967296 ∧ q ≤ (u * 4294967296 + u1) / (yn1 * 4294967296 + yn0) := by
  have hqB : q < 4294967296 := by
    rcases Nat.lt_or_ge q 4294967296 with h | h
    · exact h
    · exfalso
      have : 4294967296 * yn1 ≤ q * yn1 := Nat.mul_le_mul_right _ h
      generalize q * yn1 = a at *
      omega
  refine ⟨hqB, ?_⟩
  have h := (more_iff yn1 yn0 u u1 q r hy hq)
  have hle : q * yn0 ≤ 4294967296 * 4294967296 := Nat.mul_le_mul (by omega) (by omega)
  have hn : ¬ 4294967296 * r + u1 < q * yn0 := by omega
  rw [h] at hn
  omega

theorem first_ge (yn1 yn0 u u1 : Nat) (hy : 0 < yn1) (h1 : u1 < 4294967296) : (u * 4294967296 + u1) / (yn1 * 4294967296 + yn0) ≤ u / yn1 := by
  rw [Nat.le_div_iff_mul_le hy]
  have h := Nat.div_mul_le_self (u * 4294967296 + u1) (yn1 * 4294967296 + yn0)
  generalize (u * 4294967296 + u1) / (yn1 * 4294967296 + yn0) = q at *
  rw [Nat.mul_add, ← Nat.mul_assoc] at h
  generalize q * yn1 = a at *
  generalize q * yn0 = b at *
  omega

theorem two' (B y u u1 u0 : Nat) (hy : 0 < y) :
    (u * (B * B) + (u1 * B + u0)) / y = (u * B + u1) / y * B + ((u * B + u1) % y * B + u0) / y ∧
    (u * (B * B) + (u1 * B + u0)) % y = ((u * B + u1) % y * B + u0) % y := by
  have hd := Nat.div_add_mod (u * B + u1) y
  have e : u * (B * B) + (u1 * B + u0) = y * ((u * B + u1) / y * B) + ((u * B + u1) % y * B + u0) := by
    have e1 : u * (B * B) + (u1 * B + u0) = (u * B + u1) * B + u0 := by rw [Nat.add_mul, Nat.mul_assoc, Nat.add_assoc]
    have e2 : y * ((u * B + u1) / y * B) + ((u * B + u1) % y * B + u0) = (y * ((u * B + u1) / y) + (u * B + u1) % y) * B + u0 := by rw [Nat.add_mul, Nat.mul_assoc, Nat.add_assoc]
    rw [e1, e2, hd]
  rw [e]
  constructor
  · rw [Nat.mul_add_div hy]
  · rw [Nat.mul_add_mod]

/-- two digits, one behind the other -/
theorem two (y u u1 u0 : Nat) (hy : 0 < y) :
    (u * 18446744073709551616 + (u1 * 4294967296 + u0)) / y = (u * 4294967296 + u1) / y * 4294967296 + ((u * 4294967296 + u1) % y * 4294967296 + u0) / y ∧
    (u * 18446744073709551616 + (u1 * 4294967296 + u0)) % y = ((u * 4294967296 + u1) % y * 4294967296 + u0) % y := by
  have h := two' 4294967296 y u u1 u0 hy
  rwa [show (4294967296 : Nat) * 4294967296 = 18446744073709551616 from rfl] at h

/-- shifted both, the quotient stays and the rest is shifted -/
theorem shifted (x y s : Nat) : x * 2 ^ s / (y * 2 ^ s) = x / y ∧ x * 2 ^ s % (y * 2 ^ s) = x % y * 2 ^ s :=
  ⟨Nat.mul_div_mul_right x y (Nat.two_pow_pos s), Nat.mul_mod_mul_right ..⟩

/-- the upper and the lower word of what is shifted -/
theorem words (hi lo s : Nat) (hs : s ≤ 63) (_hlo : lo < 18446744073709551616) :
    (hi * 18446744073709551616 + lo) * 2 ^ s = (hi * 2 ^ s + lo / 2 ^ (64 - s)) * 18446744073709551616 + lo * 2 ^ s % 18446744073709551616 := by
  have e : (18446744073709551616 : Nat) = 2 ^ (64 - s) * 2 ^ s := by rw [← Nat.pow_add, show 64 - s + s = 64 by omega]
  have h1 : lo * 2 ^ s / 18446744073709551616 = lo / 2 ^ (64 - s) := by
    rw [e]; exact Nat.mul_div_mul_right _ _ (Nat.two_pow_pos s)
  have h2 := Nat.div_add_mod (lo * 2 ^ s) 18446744073709551616
  rw [h1] at h2
  rw [Nat.add_mul, Nat.add_mul, Nat.mul_assoc, Nat.mul_comm 18446744073709551616 (2 ^ s), ← Nat.mul_assoc]
  generalize lo * 2 ^ s % 18446744073709551616 = m at *
  generalize lo / 2 ^ (64 - s) = k at *
  generalize lo * 2 ^ s = l at *
  omega
end Go.Proofs.YtpodgmibghcjdaaGreatDoor.Kn
