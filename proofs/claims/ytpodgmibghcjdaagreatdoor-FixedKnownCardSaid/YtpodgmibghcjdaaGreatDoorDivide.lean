/-
  The document's long numbers: divide.
-/
import Derived.Test.YtpodgmibghcjdaaGreatDoorLess
namespace Go.Proofs.YtpodgmibghcjdaaGreatDoor
open Go Go.RowKit

theorem longN_div (a : List Nat) (ha : ∀ d ∈ a, d < 65536) (m : Nat) : longN a / 65536 ^ m = longN (a.drop m) := by
  have e := longN_cut a m
  have h := longN_take_lt a ha m
  rw [e, Nat.add_mul_div_left _ _ (Nat.pow_pos (by omega)), Nat.div_eq_of_lt h, Nat.zero_add]

theorem long_bit (a : List Nat) (ha : ∀ d ∈ a, d < 65536) (j : Nat) : longN a / 2 ^ j % 2 = a.getD (j / 16) 0 / 2 ^ (j % 16) % 2 := by
  have e1 : 2 ^ j = 65536 ^ (j / 16) * 2 ^ (j % 16) := by
    rw [show (65536 : Nat) = 2 ^ 16 from rfl, ← Nat.pow_mul, ← Nat.pow_add, Nat.div_add_mod]
  rw [e1, ← Nat.div_div_eq_div_mul, longN_div a ha, longN_drop]
  generalize a.getD (j / 16) 0 = d
  generalize longN (a.drop (j / 16 + 1)) = T
  have hs : j % 16 < 16 := Nat.mod_lt _ (by omega)
  generalize j % 16 = s at *
  have e2 : 65536 * T = 2 ^ s * (2 * (2 ^ (15 - s) * T)) := by
    rw [← Nat.mul_assoc 2, ← Nat.pow_succ', ← Nat.mul_assoc, ← Nat.pow_add, show s + (15 - s + 1) = 16 by omega]
  rw [e2, Nat.add_mul_div_left _ _ (Nat.pow_pos (by omega)), Nat.add_mul_mod_self_left]

theorem low1u (Y : Nat) (h : Y < 4294967296) : bits BinOp.and IntKind.u32 (Y : Int) 1 = ((Y % 2 : Nat) : Int) := by
  have e := u32_and_nat Y 1 h (by omega)
  rw [show ((1 : Nat) : Int) = 1 from rfl] at e
  rw [e, show Y &&& 1 = Y % 2 from Nat.and_two_pow_sub_one_eq_mod Y 1]

theorem half (A j : Nat) : A / 2 ^ j = 2 * (A / 2 ^ (j + 1)) + A / 2 ^ j % 2 := by
  rw [Nat.pow_succ, ← Nat.div_div_eq_div_mul]
  omega

theorem longR_nil (w : World) : LongR w (.slice none 0 0) [] := ⟨by simp, by simp, none, 0, rfl, by simp, by simp, fun h => absurd rfl h⟩

/-- at the head of each round of divide -/
def DivRel (w : World) (a b : List Nat) (N : Nat) (k : Nat) (vq vr vi : Value) (wr : World) : Prop :=
  Below w.heap.size w wr ∧ ∃ q r, LongR wr vq q ∧ LongR wr vr r ∧ vi = .int .i64 ((k : Int) - 1) ∧ q.length + k ≤ 16 * N ∧ r.length + k ≤ 16 * N ∧
    longN a / 2 ^ k = longN q * longN b + longN r ∧ longN r < longN b

set_option maxHeartbeats 2000000 in
set_option maxRecDepth 20000 in
theorem refDivide_any (va vb : Value) (a b : List Nat) (w : World) (ha : LongR w va a) (hbv : LongR w vb b) (h0 : 0 < longN b) (hl : a.length ≤ 5000) :
    Calls Tryz.prog 50 #[va, vb] w fun e w' => ∃ vq vr q r, e = .returned (.tuple #[vq, vr]) ∧ LongR w' vq q ∧ LongR w' vr r ∧ longN q = longN a / longN b ∧ longN r = longN a % longN b ∧ q.length ≤ 16 * a.length ∧ r.length ≤ 16 * a.length ∧ Below w.heap.size w w' := by
  obtain ⟨A, cap, rfl, hcap, hcap2, hx⟩ := ha.at_
  have HX := Lib.hid hx
  have HA := Lib.hid ha
  have HB := Lib.hid hbv
  have h5 := hl
  obtain ⟨N, hN⟩ : ∃ N, N = a.length := ⟨_, rfl⟩
  rw [← hN] at hcap h5
  have HN := Lib.hid hN
  have H0 := Lib.hid h0
  rw [← hN]
  clear hx ha hN hbv h0 hl
  go_enter Tryz.func50, Tryz.ntmps50
  go_wp2_with fail
  go_loopg [6, 7, 8] (16 * N) (fun k vq vr vi wr => DivRel w a b N k vq vr vi wr)
  case atStart =>
    refine ⟨Below.refl _ _, [], [], longR_nil _, longR_nil _, congrArg _ (by omega), by simp, by simp, ?_, by have := H0.out; simpa [longN] using this⟩
    have := longN_lt a HA.out.dig
    rw [← HN.out, show (65536 : Nat) = 2 ^ 16 from rfl, ← Nat.pow_mul] at this
    rw [Nat.div_eq_of_lt this]
    simp [longN]
  case round =>
    obtain ⟨hb, q, r, hq, hr, rfl, hql, hrl, hdm, hlt⟩ := hrel
    have HQ := Lib.hid hq
    have HR := Lib.hid hr
    have HDM := Lib.hid hdm
    have HLT := Lib.hid hlt
    clear hq hr hdm hlt
    rcases Nat.eq_zero_or_pos gk with hk0 | hk0
    · obtain rfl := hk0
      go_wp2_with fail
      go_ret2
      have h1 := HDM.out
      have h2 := HLT.out
      rw [Nat.pow_zero, Nat.div_one] at h1
      refine ⟨_, _, q, r, rfl, HQ.out, HR.out, ?_, ?_, by omega, by omega, hb⟩
      · rw [h1, Nat.mul_comm, Nat.mul_add_div (by omega), Nat.div_eq_of_lt h2, Nat.add_zero]
      · rw [h1, Nat.mul_comm, Nat.mul_add_mod, Nat.mod_eq_of_lt h2]
    · obtain ⟨j, rfl⟩ : ∃ j, gk = j + 1 := ⟨gk - 1, by omega⟩
      have ej : ((j + 1 : Nat) : Int) - 1 = (j : Int) := by omega
      rw [ej]
      clear ej
      obtain ⟨m, hm⟩ : ∃ m, m = j / 16 := ⟨_, rfl⟩
      obtain ⟨s, hs⟩ : ∃ s, s = j % 16 := ⟨_, rfl⟩
      have rm : (j : Int) / 16 = (m : Int) := by omega
      have rs : (j : Int) % 16 = (s : Int) := by omega
      have hmN : m < N := by omega
      have hs16 : s < 16 := by omega
      have hma : m < a.length := by have := HN.out; omega
      obtain ⟨g, rfl, hg, hcell⟩ := HX.out (by intro e; rw [e] at hma; simp at hma)
      obtain ⟨d, hd⟩ : ∃ d, d = a.getD m 0 := ⟨_, rfl⟩
      have hcd : wr.cell? ⟨g, m, none⟩ = some (.int .u32 (d : Int)) := by rw [hb.cell hg, hd, hcell m hma]; simp [hma]
      have hd16 : d < 65536 := by rw [hd]; simp only [List.getD_eq_getElem?_getD, List.getElem?_eq_getElem hma, Option.getD_some]; exact HA.out.dig _ (List.getElem_mem _)
      have hdI : (d : Int) ≤ 65535 := by omega
      have HMM := Lib.hid hm
      have HSS := Lib.hid hs
      have HDD := Lib.hid hd
      clear hm hs hd hcell
      obtain ⟨bit, hbit⟩ : ∃ bit, bit = d / 2 ^ s % 2 := ⟨_, rfl⟩
      have hE : bits BinOp.and IntKind.u32 ((d : Int) / 2 ^ s) 1 = (bit : Int) := by
        have e : (d : Int) / 2 ^ s = ((d / 2 ^ s : Nat) : Int) := by rw [Int.natCast_ediv, Int.natCast_pow]; rfl
        rw [e, hbit]
        exact low1u _ (by have := Nat.div_le_self d (2 ^ s); omega)
      have hb1 : bit ≤ 1 := by omega
      have hbI : (bit : Int) ≤ 1 := by omega
      have hstep : longN a / 2 ^ j = 2 * (longN q * longN b + longN r) + bit := by
        rw [half, HDM.out, long_bit a HA.out.dig, ← HMM.out, ← HSS.out, ← HDD.out, ← hbit]
      have HST := Lib.hid hstep
      clear hstep hbit
      go_wp2_with (go_at_call 52; refine (refDouble_any _ r bit _ HR.out (by omega) (by omega)).mono ?_)
      rintro e w1 ⟨vr, r2, rfl, hr2, hn2, hl2, hbb⟩
      have hbw := hb.trans (hbb.mono hb.size)
      have HR2 := Lib.hid hr2
      have HQ1 := Lib.hid (HQ.out.below hbb)
      have HB1 := Lib.hid (HB.out.below hbw)
      have HN2 := Lib.hid hn2
      clear hr2 hn2 hcd hE
      by_cases hc : longN r2 < longN b
      · have HC := Lib.hid hc
        have hdt : decide (longN r2 < longN b) = true := decide_eq_true hc
        clear hc
        go_wp2_with (go_at_call 51; refine (refLess_any _ _ r2 b _ HR2.out HB1.out).mono ?_)
        rintro e w2 ⟨rfl, rfl⟩
        simp only [hdt]
        go_wp2_with (go_at_call 52; refine (refDouble_any _ q 0 _ HQ1.out (by omega) (by omega)).mono ?_)
        rintro e w3 ⟨vq, q2, rfl, hq2, hqn, hql2, hbb3⟩
        have hbw3 := hbw.trans (hbb3.mono hbw.size)
        have HQ2 := Lib.hid hq2
        have HQN := Lib.hid hqn
        have HR3 := Lib.hid (HR2.out.below hbb3)
        clear hq2 hqn
        go_wp2
        go_roundg j
        case measure => omega
        case rel =>
          refine ⟨hbw3, q2, r2, HQ2.out, HR3.out, by first | rfl | exact congrArg _ (by omega), by omega, by omega, ?_, HC.out⟩
          rw [HST.out, HQN.out, HN2.out, Nat.add_zero, Nat.mul_add, Nat.mul_assoc, Nat.add_assoc]
      · have HC := Lib.hid hc
        have hdt : decide (longN r2 < longN b) = false := decide_eq_false hc
        have hle : longN b ≤ longN r2 := by omega
        have HLE := Lib.hid hle
        clear hc hle
        go_wp2_with (go_at_call 51; refine (refLess_any _ _ r2 b _ HR2.out HB1.out).mono ?_)
        rintro e w2 ⟨rfl, rfl⟩
        simp only [hdt]
        go_wp2_with (go_at_call 74; refine (refMinus_any _ _ r2 b _ HR2.out HB1.out HLE.out).mono ?_)
        rintro e w4 ⟨vr3, r3, rfl, hr3, hn3, hl3, hbb4⟩
        have hbw4 := hbw.trans (hbb4.mono hbw.size)
        have HR4 := Lib.hid hr3
        have HN3 := Lib.hid hn3
        have HQ4 := Lib.hid (HQ1.out.below hbb4)
        clear hr3 hn3
        go_wp2_with (go_at_call 52; refine (refDouble_any _ q 1 _ HQ4.out (by omega) (by omega)).mono ?_)
        rintro e w3 ⟨vq, q2, rfl, hq2, hqn, hql2, hbb3⟩
        have hbw3 := hbw4.trans (hbb3.mono hbw4.size)
        have HQ2 := Lib.hid hq2
        have HQN := Lib.hid hqn
        have HR3 := Lib.hid (HR4.out.below hbb3)
        clear hq2 hqn
        go_wp2
        go_roundg j
        case measure => omega
        case rel =>
          have h2 := HN2.out
          have h3 := HN3.out
          have h4 := HLE.out
          have h5 := HLT.out
          refine ⟨hbw3, q2, r3, HQ2.out, HR3.out, by first | rfl | exact congrArg _ (by omega), by omega, by omega, ?_, by omega⟩
          rw [HST.out, HQN.out, h3, h2, Nat.mul_add, Nat.add_mul, Nat.mul_assoc, Nat.one_mul]
          rw [h2] at h4
          generalize longN q * longN b = z at *
          omega
end Go.Proofs.YtpodgmibghcjdaaGreatDoor
