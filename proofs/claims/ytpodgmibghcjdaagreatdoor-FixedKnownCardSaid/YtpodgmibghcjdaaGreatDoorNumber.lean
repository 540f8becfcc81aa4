/-
  The document's long numbers: number.
-/
import Derived.Test.YtpodgmibghcjdaaGreatDoorDivide
namespace Go.Proofs.YtpodgmibghcjdaaGreatDoor
open Go Go.RowKit

theorem or16 (n d : Nat) (hn : n < 281474976710656) (hd : d < 65536) : bits BinOp.or IntKind.u64 ((n : Int) * 65536) (d : Int) = ((n * 65536 + d : Nat) : Int) := by
  have h := Kn.or_of n d 16 (by show n * 65536 < 18446744073709551616; omega) hd (by omega)
  rw [← h]
  rfl

/-- at the head of each round of number -/
def NumRel (w : World) (a : List Nat) (N k : Nat) (vn vi : Value) (wr : World) : Prop :=
  w = wr ∧ k ≤ N ∧ ∃ n : Nat, vn = .int .u64 (n : Int) ∧ vi = .int .i64 ((k : Int) - 1) ∧ n = longN (a.drop k) ∧ (4 ≤ k → n = 0) ∧ n * 65536 ^ k < 18446744073709551616

theorem num_big (a : List Nat) (j : Nat) (h4 : 4 ≤ j) (hd : a.getD j 0 ≠ 0) : 18446744073709551616 ≤ longN a := by
  have e := longN_cut a j
  rw [longN_drop a j] at e
  have h1 : 65536 ^ 4 ≤ 65536 ^ j := Nat.pow_le_pow_right (by omega) h4
  have h2 : (65536 : Nat) ^ 4 = 18446744073709551616 := by decide
  have h3 : 65536 ^ j * 1 ≤ 65536 ^ j * (a.getD j 0 + 65536 * longN (a.drop (j + 1))) := Nat.mul_le_mul_left _ (by omega)
  omega

theorem told_big (n : Nat) (neg : Bool) (h : 18446744073709551616 ≤ n) : told (endQ n neg) = pair 0 10 := by
  unfold endQ
  rw [if_pos (by cases neg <;> simp <;> omega)]
  rfl

set_option maxHeartbeats 2000000 in
set_option maxRecDepth 20000 in
theorem refNumber_any (va : Value) (a : List Nat) (neg : Bool) (w : World) (ha : LongR w va a) :
    Calls Tryz.prog 54 #[va, .bool neg] w fun e w' => e = told (endQ (longN a) neg) ∧ w = w' := by
  obtain ⟨A, cap, rfl, hcap, hcap2, hx⟩ := ha.at_
  have HX := Lib.hid hx
  have HA := Lib.hid ha
  have h5 := ha.len
  obtain ⟨N, hN⟩ : ∃ N, N = a.length := ⟨_, rfl⟩
  rw [← hN] at hcap h5
  have HN := Lib.hid hN
  rw [← hN]
  obtain ⟨E, hE⟩ : ∃ E, E = told (endQ (longN a) neg) := ⟨_, rfl⟩
  have HE := Lib.hid hE
  rw [← hE]
  clear hx ha hN hE
  go_enter Tryz.func54, Tryz.ntmps54
  go_wp2_with fail
  go_loopg [6, 7] N (fun k vn vi wr => NumRel w a N k vn vi wr)
  case atStart =>
    refine ⟨rfl, Nat.le_refl _, 0, rfl, congrArg _ (by omega), ?_, fun _ => rfl, by simp⟩
    rw [List.drop_of_length_le (by have := HN.out; omega)]; rfl
  case round =>
    obtain ⟨rfl, hk, n, rfl, rfl, hn, h4, hlt⟩ := hrel
    rcases Nat.eq_zero_or_pos gk with h0 | h0
    · obtain rfl := h0
      have hfin : n = longN a := by simpa using hn
      have hn64 : n < 18446744073709551616 := by simpa using hlt
      have HF : Hid (E = told (endQ n neg)) := by rw [HE.out, hfin]; exact rfl
      have hnU : (n : Int) ≤ 18446744073709551615 := by omega
      clear hfin hn h4 hlt hk hn64 hnU hcap2
      cases neg with
      | true =>
        rcases (show n = 9223372036854775808 ∨ n < 9223372036854775808 ∨ 9223372036854775808 < n by omega) with hc | hc | hc
        · obtain rfl := hc
          go_wp2_with fail
          go_ret2
          exact ⟨by rw [HF.out]; rfl, rfl⟩
        · have hcI : (n : Int) < 9223372036854775808 := by omega
          have HC := Lib.hid hc
          obtain ⟨t, ht⟩ : ∃ t : Int, t = (n : Int) := ⟨_, rfl⟩
          have ht0 : 0 ≤ t := by omega
          rw [← ht] at hcI ⊢
          have HT := Lib.hid ht
          clear hc ht
          go_wp2_with fail
          go_ret2
          refine ⟨?_, rfl⟩
          have hc := HC.out
          obtain rfl := HT.out
          rw [HF.out]; unfold endQ; rw [if_neg (by simp; omega)]; rfl
        · have hcI : (9223372036854775808 : Int) < n := by omega
          have HC := Lib.hid hc
          obtain ⟨t, ht⟩ : ∃ t : Int, t = (n : Int) := ⟨_, rfl⟩
          have ht0 : 0 ≤ t := by omega
          rw [← ht] at hcI ⊢
          have HT := Lib.hid ht
          clear hc ht
          go_wp2_with fail
          go_ret2
          refine ⟨?_, rfl⟩
          have hc := HC.out
          rw [HF.out]; unfold endQ; rw [if_pos (by simp; omega)]; rfl
      | false =>
        rcases (show n < 9223372036854775808 ∨ 9223372036854775808 ≤ n by omega) with hc | hc
        · have hcI : (n : Int) < 9223372036854775808 := by omega
          have HC := Lib.hid hc
          obtain ⟨t, ht⟩ : ∃ t : Int, t = (n : Int) := ⟨_, rfl⟩
          have ht0 : 0 ≤ t := by omega
          rw [← ht] at hcI ⊢
          have HT := Lib.hid ht
          clear hc ht
          go_wp2_with fail
          go_ret2
          refine ⟨?_, rfl⟩
          have hc := HC.out
          obtain rfl := HT.out
          rw [HF.out]; unfold endQ; rw [if_neg (by simp; omega)]; rfl
        · have hcI : (9223372036854775808 : Int) ≤ n := by omega
          have HC := Lib.hid hc
          obtain ⟨t, ht⟩ : ∃ t : Int, t = (n : Int) := ⟨_, rfl⟩
          have ht0 : 0 ≤ t := by omega
          rw [← ht] at hcI ⊢
          have HT := Lib.hid ht
          clear hc ht
          go_wp2_with fail
          go_ret2
          refine ⟨?_, rfl⟩
          have hc := HC.out
          rw [HF.out]; unfold endQ; rw [if_pos (by simp; omega)]; rfl
    · obtain ⟨j, rfl⟩ : ∃ j, gk = j + 1 := ⟨gk - 1, by omega⟩
      have ej : ((j + 1 : Nat) : Int) - 1 = (j : Int) := by omega
      rw [ej]
      clear ej
      have hja : j < a.length := by have := HN.out; omega
      obtain ⟨g, rfl, hg, hcell⟩ := HX.out (by intro e; rw [e] at hja; simp at hja)
      obtain ⟨d, hd⟩ : ∃ d, d = a.getD j 0 := ⟨_, rfl⟩
      have hcd : w.cell? ⟨g, j, none⟩ = some (.int .u32 (d : Int)) := by rw [hd, hcell j hja]; simp [hja]
      have hd16 : d < 65536 := by rw [hd]; simp only [List.getD_eq_getElem?_getD, List.getElem?_eq_getElem hja, Option.getD_some]; exact HA.out.dig _ (List.getElem_mem _)
      have hdI : (d : Int) ≤ 65535 := by omega
      have hnext : n * 65536 + d = longN (a.drop j) := by rw [longN_drop, ← hd, ← hn]; omega
      have HNX := Lib.hid hnext
      clear hcell hn hnext
      by_cases hj4 : 4 ≤ j
      · obtain rfl := h4 (by omega)
        by_cases hd0 : d = 0
        · obtain rfl := hd0
          clear hd
          have HJ := Lib.hid hlt
          clear hlt
          go_wp2_with fail
          go_roundg j
          case measure => omega
          case rel => exact ⟨rfl, by omega, 0, rfl, by first | rfl | exact congrArg _ (by omega), by simpa using HNX.out, fun _ => rfl, by simp⟩
        · have hbig := num_big a j hj4 (by rw [← hd]; exact hd0)
          have HE2 : Hid (E = pair 0 10) := by rw [HE.out, told_big _ _ hbig]; exact rfl
          have hdI0 : (0 : Int) < d := by omega
          clear hbig hd hlt
          go_wp2_with fail
          go_ret2
          exact ⟨by rw [HE2.out]; rfl, rfl⟩
      · have hlt2 : (n * 65536 + d) * 65536 ^ j < 18446744073709551616 ∧ n < 281474976710656 := by
          have hn4 : j = 0 ∨ j = 1 ∨ j = 2 ∨ j = 3 := by omega
          rcases hn4 with rfl | rfl | rfl | rfl <;> simp at hlt ⊢ <;> omega
        have hor := or16 n d hlt2.2 hd16
        obtain ⟨n2, hn2⟩ : ∃ n2, n2 = n * 65536 + d := ⟨_, rfl⟩
        rw [← hn2] at hor hlt2
        have hnI : (n : Int) ≤ 281474976710655 := by omega
        have hnJ : (n : Int) * 65536 ≤ 18446744073709551615 := by omega
        have HL2 := Lib.hid hlt2.1
        have HN2 := Lib.hid hn2
        clear hlt2 hlt hn2 hd h4
        go_wp2_with fail
        go_roundg j
        case measure => omega
        case rel => exact ⟨rfl, by omega, n2, rfl, by first | rfl | exact congrArg _ (by omega), by rw [HN2.out]; exact HNX.out, fun h => by omega, HL2.out⟩
end Go.Proofs.YtpodgmibghcjdaaGreatDoor
