/-
  FixedNear: the quotient of a product that is a number, floored and rounded, lies where it has to.
-/
import Derived.Test.YtpodgmibghcjdaaGreatDoorWorks
namespace Go.Proofs.YtpodgmibghcjdaaGreatDoor
open Go Go.RowKit

/-- the product, with the divisor's sign -/
def signed (a b c : Int) : Int := if c < 0 then -(a * b) else a * b

theorem signed_eq (a b c : Int) : signed a b c = if neg3 a b c then -((a.natAbs * b.natAbs : Nat) : Int) else ((a.natAbs * b.natAbs : Nat) : Int) := by
  have ea : a = if a < 0 then -(a.natAbs : Int) else (a.natAbs : Int) := by split <;> omega
  have eb : b = if b < 0 then -(b.natAbs : Int) else (b.natAbs : Int) := by split <;> omega
  unfold signed neg3
  generalize a.natAbs = m at *
  generalize b.natAbs = n at *
  by_cases h1 : a < 0 <;> by_cases h2 : b < 0 <;> by_cases h3 : c < 0 <;> simp only [h1, h2, if_true, if_false] at ea eb <;> rw [ea, eb] <;> simp [h3, Int.neg_mul, Int.mul_neg, -Int.natCast_mul] <;> simp <;> (intro h; omega)

theorem near_math (a b c : Int) (ha : -2147483648 ≤ a ∧ a ≤ 2147483647) (hb : -2147483648 ≤ b ∧ b ≤ 2147483647) (hc0 : c ≠ 0) :
    ∃ x y R XD : Int, floorE a b c = .returned (.int .i64 x) ∧ roundE a b c = .returned (.int .i64 y) ∧ XD = x * c.natAbs ∧ R = signed a b c - XD ∧ 0 ≤ R ∧ R < c.natAbs ∧
      -4611686018427387905 ≤ x ∧ x ≤ 4611686018427387904 ∧
      ((y = x + 1 ∧ ((c.natAbs : Int) - R < R ∨ (R = (c.natAbs : Int) - R ∧ 0 < signed a b c))) ∨ (y = x ∧ (R < (c.natAbs : Int) - R ∨ (R = (c.natAbs : Int) - R ∧ ¬ 0 < signed a b c)))) := by
  have hA : a.natAbs ≤ 2147483648 := by omega
  have hB : b.natAbs ≤ 2147483648 := by omega
  have hN : a.natAbs * b.natAbs ≤ 2147483648 * 2147483648 := Nat.mul_le_mul hA hB
  have hD : 0 < c.natAbs := by omega
  have hdm := Nat.div_add_mod (a.natAbs * b.natAbs) c.natAbs
  have hr := Nat.mod_lt (a.natAbs * b.natAbs) hD
  have hq := Nat.div_le_self (a.natAbs * b.natAbs) c.natAbs
  rw [floorE, if_neg hc0, roundE, if_neg hc0, signed_eq]
  unfold cutQ
  simp only []
  generalize neg3 a b c = N
  generalize a.natAbs * b.natAbs = X at *
  generalize c.natAbs = D at *
  generalize X / D = q at *
  generalize X % D = r at *
  have hZ : ((D * q : Nat) : Int) = q * D := by rw [Int.natCast_mul, Int.mul_comm]
  have hX : (X : Int) = q * D + r := by rw [← hZ]; omega
  generalize hz : (q : Int) * D = z at *
  cases N
  · refine ⟨q, if D ≤ 2 * r then q + 1 else q, r, z, ?_, ?_, hz.symm, by simp; omega, by omega, by omega, by omega, by omega, ?_⟩
    · simp only [Bool.false_and, Bool.false_eq_true, if_false, endQ]
      rw [if_neg (by omega)]
    · simp only [endQ, Bool.false_eq_true, if_false, decide_eq_true_eq]
      rw [if_neg (by split <;> omega)]
      split <;> rfl
    · simp only [Bool.false_eq_true, if_false]
      split <;> omega
  · by_cases hr0 : r = 0
    · have hb1 : (true && r != 0) = false := by simp [hr0]
      refine ⟨-(q : Int), -(q : Int), 0, -z, ?_, ?_, by rw [← hz, Int.neg_mul], ?_, by omega, by omega, by omega, by omega, ?_⟩
      · simp only [hb1, endQ, if_true, Bool.false_eq_true, if_false]
        rw [if_neg (by omega)]
      · simp only [endQ, if_true, decide_eq_true_eq]
        rw [if_neg (show ¬ D ≤ 2 * r by omega), if_neg (show ¬ 9223372036854775808 < q by omega)]
      · simp only [if_true]; omega
      · exact .inr ⟨rfl, .inl (by omega)⟩
    · have hb1 : (true && r != 0) = true := by simp [hr0]
      refine ⟨-(q : Int) - 1, if D ≤ 2 * r then -(q : Int) - 1 else -(q : Int), D - r, -z - D, ?_, ?_, by rw [← hz, Int.sub_mul, Int.neg_mul, Int.one_mul], ?_, by omega, by omega, by omega, by omega, ?_⟩
      · simp only [hb1, endQ, if_true]
        rw [if_neg (by omega)]
        congr 2; omega
      · simp only [endQ, if_true, decide_eq_true_eq]
        by_cases hd : D ≤ 2 * r
        · rw [if_pos hd, if_pos hd, if_neg (by omega)]
          congr 2; omega
        · rw [if_neg hd, if_neg hd, if_neg (by omega)]
      · simp only [if_true]; omega
      · simp only [if_true]
        by_cases hd : D ≤ 2 * r
        · rw [if_pos hd]; omega
        · rw [if_neg hd]; omega

theorem prod_bound (a b : Int) (ha : -2147483648 ≤ a ∧ a ≤ 2147483647) (hb : -2147483648 ≤ b ∧ b ≤ 2147483647) : -4611686018427387904 ≤ a * b ∧ a * b ≤ 4611686018427387904 := by
  have hN : a.natAbs * b.natAbs ≤ 2147483648 * 2147483648 := Nat.mul_le_mul (by omega) (by omega)
  rw [← Int.natAbs_mul] at hN
  omega

/-- the cases in which FixedNear's last tests end -/
theorem near_tests {y x R F P : Int} (h : (y = x + 1 ∧ (F < R ∨ (R = F ∧ 0 < P))) ∨ (y = x ∧ (R < F ∨ (R = F ∧ ¬ 0 < P)))) :
    (y = x + 1 ∧ F < R ∧ (R != F) = true ∧ (R == F) = false) ∨ (y = x + 1 ∧ 0 < P ∧ (R != F) = false ∧ (R == F) = true) ∨
    (y = x ∧ ¬ F < R ∧ (R != F) = true ∧ (R == F) = false) ∨ (y = x ∧ ¬ 0 < P ∧ (R != F) = false ∧ (R == F) = true) := by
  rcases h with ⟨h1, h2 | ⟨h2, h3⟩⟩ | ⟨h1, h2 | ⟨h2, h3⟩⟩
  · exact .inl ⟨h1, h2, by rw [bne_iff_ne]; omega, by rw [beq_eq_false_iff_ne]; omega⟩
  · exact .inr (.inl ⟨h1, h3, by simp [h2], by simp [h2]⟩)
  · exact .inr (.inr (.inl ⟨h1, by omega, by rw [bne_iff_ne]; omega, by rw [beq_eq_false_iff_ne]; omega⟩))
  · exact .inr (.inr (.inr ⟨h1, h3, by simp [h2], by simp [h2]⟩))

theorem near_idle (a b c : Int) (ha : -2147483648 ≤ a ∧ a ≤ 2147483647) (hb : -2147483648 ≤ b ∧ b ≤ 2147483647) (hc : c = 0 ∨ c = -9223372036854775808) (w : World) (hg : Glob w) :
    Calls Tryz.prog 13 #[.int .i32 a, .int .i32 b, .int .i64 c] w fun e w' => e = .returned (.bool true) ∧ Below w.heap.size w w' := by
  have hW := Lib.hid (fun w hg => works_any w hg)
  obtain ⟨ha1, ha2⟩ := ha
  obtain ⟨hb1, hb2⟩ := hb
  rcases hc with rfl | rfl
  all_goals
    go_enter Tryz.func13, Tryz.ntmps13
    go_wp2_with fail
    refine (hW.out _ hg).mono ?_
    rintro e w3 ⟨rfl, hw3⟩
    go_wp2_with fail
    go_ret
    exact ⟨rfl, hw3⟩

set_option maxRecDepth 100000 in
set_option maxHeartbeats 4000000 in
theorem near_walk (a b c : Int) (ha : -2147483648 ≤ a ∧ a ≤ 2147483647) (hb : -2147483648 ≤ b ∧ b ≤ 2147483647) (hc : I64 c) (w : World) (hg : Glob w) :
    Calls Tryz.prog 13 #[.int .i32 a, .int .i32 b, .int .i64 c] w fun e w' => e = .returned (.bool true) ∧ Below w.heap.size w w' := by
  by_cases hc0 : c = 0
  · exact near_idle a b c ha hb (.inl hc0) w hg
  by_cases hcm : c = -9223372036854775808
  · exact near_idle a b c ha hb (.inr hcm) w hg
  obtain ⟨x, y, R, XD, hx, hy, hXD, hR, hR0, hRD, hx1, hx2, htest⟩ := near_math a b c ha hb hc0
  have hpb := prod_bound a b ha hb
  have hA := fun w => MulDiv_any a b c ⟨by omega, by omega⟩ ⟨by omega, by omega⟩ hc w
  have hB := fun w => Round_any a b c ⟨by omega, by omega⟩ ⟨by omega, by omega⟩ hc w
  simp only [hx, told_num, pair] at hA
  simp only [hy, told_num, pair] at hB
  obtain ⟨D, hD⟩ : ∃ D : Int, D = c.natAbs := ⟨_, rfl⟩
  obtain ⟨P, hP⟩ : ∃ P : Int, P = signed a b c := ⟨_, rfl⟩
  rw [← hD] at hXD hRD htest
  rw [← hP] at hR htest
  obtain ⟨F, hF⟩ : ∃ F : Int, F = D - R := ⟨_, rfl⟩
  rw [← hF] at htest
  have htests := near_tests htest
  obtain ⟨hc1, hc2⟩ := hc
  have hDp : 0 < D := by omega
  have hDl : D ≤ 9223372036854775807 := by omega
  have hF1 : 0 < F := by omega
  have hF2 : F ≤ 9223372036854775807 := by omega
  have eW : (x + 1 == x) = false := by rw [beq_eq_false_iff_ne]; omega
  have eV : (x == x + 1) = false := by rw [beq_eq_false_iff_ne]; omega
  have eU : (x + 1 != x) = true := by rw [bne_iff_ne]; omega
  have hPb : -4611686018427387904 ≤ P ∧ P ≤ 4611686018427387904 := by rw [hP]; unfold signed; split <;> omega
  obtain ⟨hP1, hP2⟩ := hPb
  have hXb : -9223372036854775807 ≤ XD ∧ XD ≤ 9223372036854775807 := by
    rcases (by omega : 0 ≤ x ∨ x = -1 ∨ x ≤ -2) with h | h | h
    · have h0 : 0 ≤ XD := by rw [hXD]; exact Int.mul_nonneg h (by omega)
      omega
    · have h0 : XD = -D := by rw [hXD, h, Int.neg_mul, Int.one_mul]
      omega
    · have h0 : XD ≤ -2 * D := by rw [hXD]; exact Int.mul_le_mul_of_nonneg_right h (by omega)
      omega
  obtain ⟨hX1, hX2⟩ := hXb
  have rXD : wrap64 (x * D) = XD := by rw [← hXD]; unfold wrap64; omega
  have rR : P - XD = R := hR.symm
  have rF : D - R = F := hF.symm
  have hRD' : ¬ D ≤ R := by omega
  have HA := Lib.hid hA
  have HB := Lib.hid hB
  have HW := Lib.hid (fun w hg => works_any w hg)
  clear htest hXD hR hF hA hB hx hy
  obtain ⟨ha1, ha2⟩ := ha
  obtain ⟨hb1, hb2⟩ := hb
  by_cases hneg : c < 0
  · have rP : wrap64 (a * b) = -P := by
      rw [hP, signed, if_pos hneg, Int.neg_neg]; unfold wrap64; omega
    have rc : c = -D := by omega
    subst rc
    have e0 : (-D == 0) = false := by simp; omega
    have e1 : (-D == -9223372036854775808) = false := by simp; omega
    have hng : -D < 0 := by omega
    clear hD hP hcm hc0 hneg hpb
    rcases htests with ⟨rfl, t1, t2, t3⟩ | ⟨rfl, t1, t2, t3⟩ | ⟨rfl, t1, t2, t3⟩ | ⟨rfl, t1, t2, t3⟩
    all_goals
      go_enter Tryz.func13, Tryz.ntmps13
      go_wp2_with fail
      refine (HA.out _).mono ?_
      rintro e w1 ⟨rfl, hw1⟩
      go_wp2_with fail
      refine (HB.out _).mono ?_
      rintro e w2 ⟨rfl, hw2⟩
      have hw12 := hw1.trans (hw2.mono hw1.size)
      go_wp2_with fail
      refine (HW.out _ (hg.below hw12)).mono ?_
      rintro e w3 ⟨rfl, hw3⟩
      go_wp2_with fail
      go_ret
      exact ⟨rfl, hw12.trans (hw3.mono hw12.size)⟩
  · have rP : wrap64 (a * b) = P := by
      rw [hP, signed, if_neg hneg]; unfold wrap64; omega
    have rc : c = D := by omega
    subst rc
    have e0 : (c == 0) = false := by simp; omega
    have e1 : (c == -9223372036854775808) = false := by simp; omega
    have hng : ¬ c < 0 := by omega
    clear hD hP hcm hc0 hneg hpb
    rcases htests with ⟨rfl, t1, t2, t3⟩ | ⟨rfl, t1, t2, t3⟩ | ⟨rfl, t1, t2, t3⟩ | ⟨rfl, t1, t2, t3⟩
    all_goals
      go_enter Tryz.func13, Tryz.ntmps13
      go_wp2_with fail
      refine (HA.out _).mono ?_
      rintro e w1 ⟨rfl, hw1⟩
      go_wp2_with fail
      refine (HB.out _).mono ?_
      rintro e w2 ⟨rfl, hw2⟩
      have hw12 := hw1.trans (hw2.mono hw1.size)
      go_wp2_with fail
      refine (HW.out _ (hg.below hw12)).mono ?_
      rintro e w3 ⟨rfl, hw3⟩
      go_wp2_with fail
      go_ret
      exact ⟨rfl, hw12.trans (hw3.mono hw12.size)⟩
end Go.Proofs.YtpodgmibghcjdaaGreatDoor
