/-
  The document's quotients: quotient, MulDiv, Round.
-/
import Derived.Test.YtpodgmibghcjdaaGreatDoorTimes
import Derived.Test.YtpodgmibghcjdaaGreatDoorRefP
namespace Go.Proofs.YtpodgmibghcjdaaGreatDoor
open Go Go.RowKit

theorem told_pair (n : Nat) (neg : Bool) : ∃ z k : Int, told (endQ n neg) = .returned (.tuple #[.int .i64 z, .int .i64 k]) := by
  rcases endQ_cases n neg with h | ⟨v, h⟩
  · exact ⟨0, 10, by rw [h]; rfl⟩
  · exact ⟨v, 0, by rw [h]; rfl⟩

set_option maxHeartbeats 4000000 in
set_option maxRecDepth 20000 in
theorem refFloorQ (a b c : Int) (ha : I64 a) (hb : I64 b) (hc : I64 c) (w : World) :
    Calls Tryz.prog 62 #[.int .i64 a, .int .i64 b, .int .i64 c, .bool false] w fun e w' => e = told (floorE a b c) ∧ Below w.heap.size w w' := by
  obtain ⟨E, hE⟩ : ∃ E, E = told (floorE a b c) := ⟨_, rfl⟩
  rw [← hE]
  by_cases h0 : c = 0
  · have HE : Hid (E = pair 0 2) := by rw [hE]; unfold floorE; rw [if_pos h0]; exact rfl
    subst h0
    clear hE
    go_enter Tryz.func62, Tryz.ntmps62
    go_wp2_with fail
    go_ret2
    exact ⟨by rw [HE.out]; rfl, Below.refl _ _⟩
  · have hE2 : E = told (endQ (cutQ a b c fun r => neg3 a b c && r != 0) (neg3 a b c)) := by rw [hE]; unfold floorE; rw [if_neg h0]
    have HE := Lib.hid hE2
    have HSA := Lib.hid (fun w => refSize_any a ha.1 ha.2 w)
    have HSB := Lib.hid (fun w => refSize_any b hb.1 hb.2 w)
    have HSC := Lib.hid (fun w => refSize_any c hc.1 hc.2 w)
    have hA : a.natAbs < 18446744073709551616 := by have := ha.1; have := ha.2; omega
    have hB : b.natAbs < 18446744073709551616 := by have := hb.1; have := hb.2; omega
    have hC : c.natAbs < 18446744073709551616 := by have := hc.1; have := hc.2; omega
    have hC0 : 0 < c.natAbs := by omega
    have cut1 : ∀ m : Nat → Bool, m (a.natAbs * b.natAbs % c.natAbs) = true → cutQ a b c m = a.natAbs * b.natAbs / c.natAbs + 1 := fun m h => by unfold cutQ; rw [if_pos h]
    have cut0 : ∀ m : Nat → Bool, m (a.natAbs * b.natAbs % c.natAbs) = false → cutQ a b c m = a.natAbs * b.natAbs / c.natAbs := fun m h => by unfold cutQ; rw [if_neg (by rw [h]; decide)]
    obtain ⟨A, eA⟩ : ∃ A, A = a.natAbs := ⟨_, rfl⟩
    obtain ⟨B, eB⟩ : ∃ B, B = b.natAbs := ⟨_, rfl⟩
    obtain ⟨C, eC⟩ : ∃ C, C = c.natAbs := ⟨_, rfl⟩
    rw [← eA] at HSA hA
    rw [← eB] at HSB hB
    rw [← eC] at HSC hC hC0
    simp only [← eA, ← eB, ← eC] at cut1 cut0
    have HA := Lib.hid hA
    have HB := Lib.hid hB
    have HC := Lib.hid hC
    have HEC := Lib.hid eC
    have CUT1 := Lib.hid cut1
    have CUT0 := Lib.hid cut0
    clear hE hE2 eA eB eC cut1 cut0
    by_cases h1 : a < 0
    · by_cases h2 : b < 0
      · by_cases h3 : c < 0
        · have hneg : neg3 a b c = true := by unfold neg3; simp [h1, h2, h3]
          have HNEG := Lib.hid hneg
          clear hneg hA hB hC
          go_enter Tryz.func62, Tryz.ntmps62
          go_wp2_with fail
          refine (HSA.out _).mono ?_
          rintro e w1 ⟨rfl, rfl⟩
          go_wp2_with fail
          refine (of_any A HA.out _).mono ?_
          rintro e w1 ⟨v1, l1, rfl, hl1, hn1, hlen1, hb1⟩
          have L1 := Lib.hid hl1
          have N1 := Lib.hid hn1
          clear hl1 hn1
          go_wp2_with fail
          refine (HSB.out _).mono ?_
          rintro e w2 ⟨rfl, rfl⟩
          go_wp2_with fail
          refine (of_any B HB.out _).mono ?_
          rintro e w2 ⟨v2, l2, rfl, hl2, hn2, hlen2, hb2⟩
          have hb12 := hb1.trans (hb2.mono hb1.size)
          have L2 := Lib.hid hl2
          have N2 := Lib.hid hn2
          have L1' := Lib.hid (L1.out.below hb2)
          clear hl2 hn2
          go_wp2_with fail
          refine (refTimes_any _ _ l1 l2 _ L1'.out L2.out (by omega)).mono ?_
          rintro e w3 ⟨v3, l3, rfl, hl3, hn3, hlen3, hb3⟩
          have hb13 := hb12.trans (hb3.mono hb12.size)
          have L3 := Lib.hid hl3
          have N3 := Lib.hid hn3
          clear hl3 hn3
          go_wp2_with fail
          refine (HSC.out _).mono ?_
          rintro e w4 ⟨rfl, rfl⟩
          go_wp2_with fail
          refine (of_any C HC.out _).mono ?_
          rintro e w4 ⟨v4, l4, rfl, hl4, hn4, hlen4, hb4⟩
          have hb14 := hb13.trans (hb4.mono hb13.size)
          have L4 := Lib.hid hl4
          have N4 := Lib.hid hn4
          have L3' := Lib.hid (L3.out.below hb4)
          clear hl4 hn4
          go_wp2_with fail
          refine (refDivide_any _ _ l3 l4 _ L3'.out L4.out (by rw [N4.out]; exact hC0) (by omega)).mono ?_
          rintro e w5 ⟨vq, vr, q, r, rfl, hq, hr, hqn, hrn, hql, hrl, hb5⟩
          have hb15 := hb14.trans (hb5.mono hb14.size)
          have QN : Hid (longN q = A * B / C) := by rw [hqn, N3.out, N1.out, N2.out, N4.out]; exact rfl
          have RN : Hid (longN r = A * B % C) := by rw [hrn, N3.out, N1.out, N2.out, N4.out]; exact rfl
          have LQ := Lib.hid hq
          have LR := Lib.hid hr
          have L4' := Lib.hid (L4.out.below hb5)
          clear hq hr hqn hrn
          by_cases hr0 : longN r = 0
          · have hdt : decide (longN r = 0) = true := decide_eq_true hr0
            have HR0 := Lib.hid hr0
            clear hr0
            go_wp2_with fail
            refine (refZero_any _ r _ LR.out).mono ?_
            rintro e w6 ⟨rfl, hb6⟩
            simp only [hdt]
            have hb16 := hb15.trans (hb6.mono hb15.size)
            have LQ6 := Lib.hid (LQ.out.below hb6)
            have HCUT : (cutQ a b c fun r => neg3 a b c && r != 0) = A * B / C := CUT0.out _ (by rw [HNEG.out, ← RN.out, HR0.out]; rfl)
            go_wp2_with fail
            refine (refNumber_any _ q _ _ LQ6.out).mono ?_
            rintro e w9 ⟨rfl, rfl⟩
            rw [QN.out]
            obtain ⟨z, k, hz⟩ := told_pair (A * B / C) true
            rw [hz]
            have HZ := Lib.hid hz
            clear hz
            go_wp2_with fail
            go_ret2
            refine ⟨?_, hb16⟩
            rw [HE.out, HCUT, HNEG.out, HZ.out]
            rfl
          · have hdt : decide (longN r = 0) = false := decide_eq_false hr0
            have HR0 := Lib.hid hr0
            clear hr0
            go_wp2_with fail
            refine (refZero_any _ r _ LR.out).mono ?_
            rintro e w6 ⟨rfl, hb6⟩
            simp only [hdt]
            have hb16 := hb15.trans (hb6.mono hb15.size)
            have LQ6 := Lib.hid (LQ.out.below hb6)
            have HCUT : (cutQ a b c fun r => neg3 a b c && r != 0) = A * B / C + 1 := CUT1.out _ (by rw [HNEG.out, ← RN.out]; have := HR0.out; simp [this])
            go_wp2_with fail
            refine (refPlusOne_any _ q _ LQ6.out (by omega)).mono ?_
            rintro e w8 ⟨v8, l8, rfl, hl8, hn8, hlen8, hb8⟩
            have hb18 := hb16.trans (hb8.mono hb16.size)
            have L8 := Lib.hid hl8
            have N8 := Lib.hid hn8
            clear hl8 hn8
            go_wp2_with fail
            refine (refNumber_any _ l8 _ _ L8.out).mono ?_
            rintro e w9 ⟨rfl, rfl⟩
            rw [N8.out, QN.out]
            obtain ⟨z, k, hz⟩ := told_pair (A * B / C + 1) true
            rw [hz]
            have HZ := Lib.hid hz
            clear hz
            go_wp2_with fail
            go_ret2
            refine ⟨?_, hb18⟩
            rw [HE.out, HCUT, HNEG.out, HZ.out]
            rfl
        · have hneg : neg3 a b c = false := by unfold neg3; simp [h1, h2, h3]
          have HNEG := Lib.hid hneg
          clear hneg hA hB hC
          go_enter Tryz.func62, Tryz.ntmps62
          go_wp2_with fail
          refine (HSA.out _).mono ?_
          rintro e w1 ⟨rfl, rfl⟩
          go_wp2_with fail
          refine (of_any A HA.out _).mono ?_
          rintro e w1 ⟨v1, l1, rfl, hl1, hn1, hlen1, hb1⟩
          have L1 := Lib.hid hl1
          have N1 := Lib.hid hn1
          clear hl1 hn1
          go_wp2_with fail
          refine (HSB.out _).mono ?_
          rintro e w2 ⟨rfl, rfl⟩
          go_wp2_with fail
          refine (of_any B HB.out _).mono ?_
          rintro e w2 ⟨v2, l2, rfl, hl2, hn2, hlen2, hb2⟩
          have hb12 := hb1.trans (hb2.mono hb1.size)
          have L2 := Lib.hid hl2
          have N2 := Lib.hid hn2
          have L1' := Lib.hid (L1.out.below hb2)
          clear hl2 hn2
          go_wp2_with fail
          refine (refTimes_any _ _ l1 l2 _ L1'.out L2.out (by omega)).mono ?_
          rintro e w3 ⟨v3, l3, rfl, hl3, hn3, hlen3, hb3⟩
          have hb13 := hb12.trans (hb3.mono hb12.size)
          have L3 := Lib.hid hl3
          have N3 := Lib.hid hn3
          clear hl3 hn3
          go_wp2_with fail
          refine (HSC.out _).mono ?_
          rintro e w4 ⟨rfl, rfl⟩
          go_wp2_with fail
          refine (of_any C HC.out _).mono ?_
          rintro e w4 ⟨v4, l4, rfl, hl4, hn4, hlen4, hb4⟩
          have hb14 := hb13.trans (hb4.mono hb13.size)
          have L4 := Lib.hid hl4
          have N4 := Lib.hid hn4
          have L3' := Lib.hid (L3.out.below hb4)
          clear hl4 hn4
          go_wp2_with fail
          refine (refDivide_any _ _ l3 l4 _ L3'.out L4.out (by rw [N4.out]; exact hC0) (by omega)).mono ?_
          rintro e w5 ⟨vq, vr, q, r, rfl, hq, hr, hqn, hrn, hql, hrl, hb5⟩
          have hb15 := hb14.trans (hb5.mono hb14.size)
          have QN : Hid (longN q = A * B / C) := by rw [hqn, N3.out, N1.out, N2.out, N4.out]; exact rfl
          have RN : Hid (longN r = A * B % C) := by rw [hrn, N3.out, N1.out, N2.out, N4.out]; exact rfl
          have LQ := Lib.hid hq
          have LR := Lib.hid hr
          have L4' := Lib.hid (L4.out.below hb5)
          clear hq hr hqn hrn
          have HCUT : (cutQ a b c fun r => neg3 a b c && r != 0) = A * B / C := CUT0.out _ (by rw [HNEG.out]; rfl)
          go_wp2_with fail
          refine (refNumber_any _ q _ _ LQ.out).mono ?_
          rintro e w9 ⟨rfl, rfl⟩
          rw [QN.out]
          obtain ⟨z, k, hz⟩ := told_pair (A * B / C) false
          rw [hz]
          have HZ := Lib.hid hz
          clear hz
          go_wp2_with fail
          go_ret2
          refine ⟨?_, hb15⟩
          rw [HE.out, HCUT, HNEG.out, HZ.out]
          rfl
      · by_cases h3 : c < 0
        · have hneg : neg3 a b c = false := by unfold neg3; simp [h1, h2, h3]
          have HNEG := Lib.hid hneg
          clear hneg hA hB hC
          go_enter Tryz.func62, Tryz.ntmps62
          go_wp2_with fail
          refine (HSA.out _).mono ?_
          rintro e w1 ⟨rfl, rfl⟩
          go_wp2_with fail
          refine (of_any A HA.out _).mono ?_
          rintro e w1 ⟨v1, l1, rfl, hl1, hn1, hlen1, hb1⟩
          have L1 := Lib.hid hl1
          have N1 := Lib.hid hn1
          clear hl1 hn1
          go_wp2_with fail
          refine (HSB.out _).mono ?_
          rintro e w2 ⟨rfl, rfl⟩
          go_wp2_with fail
          refine (of_any B HB.out _).mono ?_
          rintro e w2 ⟨v2, l2, rfl, hl2, hn2, hlen2, hb2⟩
          have hb12 := hb1.trans (hb2.mono hb1.size)
          have L2 := Lib.hid hl2
          have N2 := Lib.hid hn2
          have L1' := Lib.hid (L1.out.below hb2)
          clear hl2 hn2
          go_wp2_with fail
          refine (refTimes_any _ _ l1 l2 _ L1'.out L2.out (by omega)).mono ?_
          rintro e w3 ⟨v3, l3, rfl, hl3, hn3, hlen3, hb3⟩
          have hb13 := hb12.trans (hb3.mono hb12.size)
          have L3 := Lib.hid hl3
          have N3 := Lib.hid hn3
          clear hl3 hn3
          go_wp2_with fail
          refine (HSC.out _).mono ?_
          rintro e w4 ⟨rfl, rfl⟩
          go_wp2_with fail
          refine (of_any C HC.out _).mono ?_
          rintro e w4 ⟨v4, l4, rfl, hl4, hn4, hlen4, hb4⟩
          have hb14 := hb13.trans (hb4.mono hb13.size)
          have L4 := Lib.hid hl4
          have N4 := Lib.hid hn4
          have L3' := Lib.hid (L3.out.below hb4)
          clear hl4 hn4
          go_wp2_with fail
          refine (refDivide_any _ _ l3 l4 _ L3'.out L4.out (by rw [N4.out]; exact hC0) (by omega)).mono ?_
          rintro e w5 ⟨vq, vr, q, r, rfl, hq, hr, hqn, hrn, hql, hrl, hb5⟩
          have hb15 := hb14.trans (hb5.mono hb14.size)
          have QN : Hid (longN q = A * B / C) := by rw [hqn, N3.out, N1.out, N2.out, N4.out]; exact rfl
          have RN : Hid (longN r = A * B % C) := by rw [hrn, N3.out, N1.out, N2.out, N4.out]; exact rfl
          have LQ := Lib.hid hq
          have LR := Lib.hid hr
          have L4' := Lib.hid (L4.out.below hb5)
          clear hq hr hqn hrn
          have HCUT : (cutQ a b c fun r => neg3 a b c && r != 0) = A * B / C := CUT0.out _ (by rw [HNEG.out]; rfl)
          go_wp2_with fail
          refine (refNumber_any _ q _ _ LQ.out).mono ?_
          rintro e w9 ⟨rfl, rfl⟩
          rw [QN.out]
          obtain ⟨z, k, hz⟩ := told_pair (A * B / C) false
          rw [hz]
          have HZ := Lib.hid hz
          clear hz
          go_wp2_with fail
          go_ret2
          refine ⟨?_, hb15⟩
          rw [HE.out, HCUT, HNEG.out, HZ.out]
          rfl
        · have hneg : neg3 a b c = true := by unfold neg3; simp [h1, h2, h3]
          have HNEG := Lib.hid hneg
          clear hneg hA hB hC
          go_enter Tryz.func62, Tryz.ntmps62
          go_wp2_with fail
          refine (HSA.out _).mono ?_
          rintro e w1 ⟨rfl, rfl⟩
          go_wp2_with fail
          refine (of_any A HA.out _).mono ?_
          rintro e w1 ⟨v1, l1, rfl, hl1, hn1, hlen1, hb1⟩
          have L1 := Lib.hid hl1
          have N1 := Lib.hid hn1
          clear hl1 hn1
          go_wp2_with fail
          refine (HSB.out _).mono ?_
          rintro e w2 ⟨rfl, rfl⟩
          go_wp2_with fail
          refine (of_any B HB.out _).mono ?_
          rintro e w2 ⟨v2, l2, rfl, hl2, hn2, hlen2, hb2⟩
          have hb12 := hb1.trans (hb2.mono hb1.size)
          have L2 := Lib.hid hl2
          have N2 := Lib.hid hn2
          have L1' := Lib.hid (L1.out.below hb2)
          clear hl2 hn2
          go_wp2_with fail
          refine (refTimes_any _ _ l1 l2 _ L1'.out L2.out (by omega)).mono ?_
          rintro e w3 ⟨v3, l3, rfl, hl3, hn3, hlen3, hb3⟩
          have hb13 := hb12.trans (hb3.mono hb12.size)
          have L3 := Lib.hid hl3
          have N3 := Lib.hid hn3
          clear hl3 hn3
          go_wp2_with fail
          refine (HSC.out _).mono ?_
          rintro e w4 ⟨rfl, rfl⟩
          go_wp2_with fail
          refine (of_any C HC.out _).mono ?_
          rintro e w4 ⟨v4, l4, rfl, hl4, hn4, hlen4, hb4⟩
          have hb14 := hb13.trans (hb4.mono hb13.size)
          have L4 := Lib.hid hl4
          have N4 := Lib.hid hn4
          have L3' := Lib.hid (L3.out.below hb4)
          clear hl4 hn4
          go_wp2_with fail
          refine (refDivide_any _ _ l3 l4 _ L3'.out L4.out (by rw [N4.out]; exact hC0) (by omega)).mono ?_
          rintro e w5 ⟨vq, vr, q, r, rfl, hq, hr, hqn, hrn, hql, hrl, hb5⟩
          have hb15 := hb14.trans (hb5.mono hb14.size)
          have QN : Hid (longN q = A * B / C) := by rw [hqn, N3.out, N1.out, N2.out, N4.out]; exact rfl
          have RN : Hid (longN r = A * B % C) := by rw [hrn, N3.out, N1.out, N2.out, N4.out]; exact rfl
          have LQ := Lib.hid hq
          have LR := Lib.hid hr
          have L4' := Lib.hid (L4.out.below hb5)
          clear hq hr hqn hrn
          by_cases hr0 : longN r = 0
          · have hdt : decide (longN r = 0) = true := decide_eq_true hr0
            have HR0 := Lib.hid hr0
            clear hr0
            go_wp2_with fail
            refine (refZero_any _ r _ LR.out).mono ?_
            rintro e w6 ⟨rfl, hb6⟩
            simp only [hdt]
            have hb16 := hb15.trans (hb6.mono hb15.size)
            have LQ6 := Lib.hid (LQ.out.below hb6)
            have HCUT : (cutQ a b c fun r => neg3 a b c && r != 0) = A * B / C := CUT0.out _ (by rw [HNEG.out, ← RN.out, HR0.out]; rfl)
            go_wp2_with fail
            refine (refNumber_any _ q _ _ LQ6.out).mono ?_
            rintro e w9 ⟨rfl, rfl⟩
            rw [QN.out]
            obtain ⟨z, k, hz⟩ := told_pair (A * B / C) true
            rw [hz]
            have HZ := Lib.hid hz
            clear hz
            go_wp2_with fail
            go_ret2
            refine ⟨?_, hb16⟩
            rw [HE.out, HCUT, HNEG.out, HZ.out]
            rfl
          · have hdt : decide (longN r = 0) = false := decide_eq_false hr0
            have HR0 := Lib.hid hr0
            clear hr0
            go_wp2_with fail
            refine (refZero_any _ r _ LR.out).mono ?_
            rintro e w6 ⟨rfl, hb6⟩
            simp only [hdt]
            have hb16 := hb15.trans (hb6.mono hb15.size)
            have LQ6 := Lib.hid (LQ.out.below hb6)
            have HCUT : (cutQ a b c fun r => neg3 a b c && r != 0) = A * B / C + 1 := CUT1.out _ (by rw [HNEG.out, ← RN.out]; have := HR0.out; simp [this])
            go_wp2_with fail
            refine (refPlusOne_any _ q _ LQ6.out (by omega)).mono ?_
            rintro e w8 ⟨v8, l8, rfl, hl8, hn8, hlen8, hb8⟩
            have hb18 := hb16.trans (hb8.mono hb16.size)
            have L8 := Lib.hid hl8
            have N8 := Lib.hid hn8
            clear hl8 hn8
            go_wp2_with fail
            refine (refNumber_any _ l8 _ _ L8.out).mono ?_
            rintro e w9 ⟨rfl, rfl⟩
            rw [N8.out, QN.out]
            obtain ⟨z, k, hz⟩ := told_pair (A * B / C + 1) true
            rw [hz]
            have HZ := Lib.hid hz
            clear hz
            go_wp2_with fail
            go_ret2
            refine ⟨?_, hb18⟩
            rw [HE.out, HCUT, HNEG.out, HZ.out]
            rfl
    · by_cases h2 : b < 0
      · by_cases h3 : c < 0
        · have hneg : neg3 a b c = false := by unfold neg3; simp [h1, h2, h3]
          have HNEG := Lib.hid hneg
          clear hneg hA hB hC
          go_enter Tryz.func62, Tryz.ntmps62
          go_wp2_with fail
          refine (HSA.out _).mono ?_
          rintro e w1 ⟨rfl, rfl⟩
          go_wp2_with fail
          refine (of_any A HA.out _).mono ?_
          rintro e w1 ⟨v1, l1, rfl, hl1, hn1, hlen1, hb1⟩
          have L1 := Lib.hid hl1
          have N1 := Lib.hid hn1
          clear hl1 hn1
          go_wp2_with fail
          refine (HSB.out _).mono ?_
          rintro e w2 ⟨rfl, rfl⟩
          go_wp2_with fail
          refine (of_any B HB.out _).mono ?_
          rintro e w2 ⟨v2, l2, rfl, hl2, hn2, hlen2, hb2⟩
          have hb12 := hb1.trans (hb2.mono hb1.size)
          have L2 := Lib.hid hl2
          have N2 := Lib.hid hn2
          have L1' := Lib.hid (L1.out.below hb2)
          clear hl2 hn2
          go_wp2_with fail
          refine (refTimes_any _ _ l1 l2 _ L1'.out L2.out (by omega)).mono ?_
          rintro e w3 ⟨v3, l3, rfl, hl3, hn3, hlen3, hb3⟩
          have hb13 := hb12.trans (hb3.mono hb12.size)
          have L3 := Lib.hid hl3
          have N3 := Lib.hid hn3
          clear hl3 hn3
          go_wp2_with fail
          refine (HSC.out _).mono ?_
          rintro e w4 ⟨rfl, rfl⟩
          go_wp2_with fail
          refine (of_any C HC.out _).mono ?_
          rintro e w4 ⟨v4, l4, rfl, hl4, hn4, hlen4, hb4⟩
          have hb14 := hb13.trans (hb4.mono hb13.size)
          have L4 := Lib.hid hl4
          have N4 := Lib.hid hn4
          have L3' := Lib.hid (L3.out.below hb4)
          clear hl4 hn4
          go_wp2_with fail
          refine (refDivide_any _ _ l3 l4 _ L3'.out L4.out (by rw [N4.out]; exact hC0) (by omega)).mono ?_
          rintro e w5 ⟨vq, vr, q, r, rfl, hq, hr, hqn, hrn, hql, hrl, hb5⟩
          have hb15 := hb14.trans (hb5.mono hb14.size)
          have QN : Hid (longN q = A * B / C) := by rw [hqn, N3.out, N1.out, N2.out, N4.out]; exact rfl
          have RN : Hid (longN r = A * B % C) := by rw [hrn, N3.out, N1.out, N2.out, N4.out]; exact rfl
          have LQ := Lib.hid hq
          have LR := Lib.hid hr
          have L4' := Lib.hid (L4.out.below hb5)
          clear hq hr hqn hrn
          have HCUT : (cutQ a b c fun r => neg3 a b c && r != 0) = A * B / C := CUT0.out _ (by rw [HNEG.out]; rfl)
          go_wp2_with fail
          refine (refNumber_any _ q _ _ LQ.out).mono ?_
          rintro e w9 ⟨rfl, rfl⟩
          rw [QN.out]
          obtain ⟨z, k, hz⟩ := told_pair (A * B / C) false
          rw [hz]
          have HZ := Lib.hid hz
          clear hz
          go_wp2_with fail
          go_ret2
          refine ⟨?_, hb15⟩
          rw [HE.out, HCUT, HNEG.out, HZ.out]
          rfl
        · have hneg : neg3 a b c = true := by unfold neg3; simp [h1, h2, h3]
          have HNEG := Lib.hid hneg
          clear hneg hA hB hC
          go_enter Tryz.func62, Tryz.ntmps62
          go_wp2_with fail
          refine (HSA.out _).mono ?_
          rintro e w1 ⟨rfl, rfl⟩
          go_wp2_with fail
          refine (of_any A HA.out _).mono ?_
          rintro e w1 ⟨v1, l1, rfl, hl1, hn1, hlen1, hb1⟩
          have L1 := Lib.hid hl1
          have N1 := Lib.hid hn1
          clear hl1 hn1
          go_wp2_with fail
          refine (HSB.out _).mono ?_
          rintro e w2 ⟨rfl, rfl⟩
          go_wp2_with fail
          refine (of_any B HB.out _).mono ?_
          rintro e w2 ⟨v2, l2, rfl, hl2, hn2, hlen2, hb2⟩
          have hb12 := hb1.trans (hb2.mono hb1.size)
          have L2 := Lib.hid hl2
          have N2 := Lib.hid hn2
          have L1' := Lib.hid (L1.out.below hb2)
          clear hl2 hn2
          go_wp2_with fail
          refine (refTimes_any _ _ l1 l2 _ L1'.out L2.out (by omega)).mono ?_
          rintro e w3 ⟨v3, l3, rfl, hl3, hn3, hlen3, hb3⟩
          have hb13 := hb12.trans (hb3.mono hb12.size)
          have L3 := Lib.hid hl3
          have N3 := Lib.hid hn3
          clear hl3 hn3
          go_wp2_with fail
          refine (HSC.out _).mono ?_
          rintro e w4 ⟨rfl, rfl⟩
          go_wp2_with fail
          refine (of_any C HC.out _).mono ?_
          rintro e w4 ⟨v4, l4, rfl, hl4, hn4, hlen4, hb4⟩
          have hb14 := hb13.trans (hb4.mono hb13.size)
          have L4 := Lib.hid hl4
          have N4 := Lib.hid hn4
          have L3' := Lib.hid (L3.out.below hb4)
          clear hl4 hn4
          go_wp2_with fail
          refine (refDivide_any _ _ l3 l4 _ L3'.out L4.out (by rw [N4.out]; exact hC0) (by omega)).mono ?_
          rintro e w5 ⟨vq, vr, q, r, rfl, hq, hr, hqn, hrn, hql, hrl, hb5⟩
          have hb15 := hb14.trans (hb5.mono hb14.size)
          have QN : Hid (longN q = A * B / C) := by rw [hqn, N3.out, N1.out, N2.out, N4.out]; exact rfl
          have RN : Hid (longN r = A * B % C) := by rw [hrn, N3.out, N1.out, N2.out, N4.out]; exact rfl
          have LQ := Lib.hid hq
          have LR := Lib.hid hr
          have L4' := Lib.hid (L4.out.below hb5)
          clear hq hr hqn hrn
          by_cases hr0 : longN r = 0
          · have hdt : decide (longN r = 0) = true := decide_eq_true hr0
            have HR0 := Lib.hid hr0
            clear hr0
            go_wp2_with fail
            refine (refZero_any _ r _ LR.out).mono ?_
            rintro e w6 ⟨rfl, hb6⟩
            simp only [hdt]
            have hb16 := hb15.trans (hb6.mono hb15.size)
            have LQ6 := Lib.hid (LQ.out.below hb6)
            have HCUT : (cutQ a b c fun r => neg3 a b c && r != 0) = A * B / C := CUT0.out _ (by rw [HNEG.out, ← RN.out, HR0.out]; rfl)
            go_wp2_with fail
            refine (refNumber_any _ q _ _ LQ6.out).mono ?_
            rintro e w9 ⟨rfl, rfl⟩
            rw [QN.out]
            obtain ⟨z, k, hz⟩ := told_pair (A * B / C) true
            rw [hz]
            have HZ := Lib.hid hz
            clear hz
            go_wp2_with fail
            go_ret2
            refine ⟨?_, hb16⟩
            rw [HE.out, HCUT, HNEG.out, HZ.out]
            rfl
          · have hdt : decide (longN r = 0) = false := decide_eq_false hr0
            have HR0 := Lib.hid hr0
            clear hr0
            go_wp2_with fail
            refine (refZero_any _ r _ LR.out).mono ?_
            rintro e w6 ⟨rfl, hb6⟩
            simp only [hdt]
            have hb16 := hb15.trans (hb6.mono hb15.size)
            have LQ6 := Lib.hid (LQ.out.below hb6)
            have HCUT : (cutQ a b c fun r => neg3 a b c && r != 0) = A * B / C + 1 := CUT1.out _ (by rw [HNEG.out, ← RN.out]; have := HR0.out; simp [this])
            go_wp2_with fail
            refine (refPlusOne_any _ q _ LQ6.out (by omega)).mono ?_
            rintro e w8 ⟨v8, l8, rfl, hl8, hn8, hlen8, hb8⟩
            have hb18 := hb16.trans (hb8.mono hb16.size)
            have L8 := Lib.hid hl8
            have N8 := Lib.hid hn8
            clear hl8 hn8
            go_wp2_with fail
            refine (refNumber_any _ l8 _ _ L8.out).mono ?_
            rintro e w9 ⟨rfl, rfl⟩
            rw [N8.out, QN.out]
            obtain ⟨z, k, hz⟩ := told_pair (A * B / C + 1) true
            rw [hz]
            have HZ := Lib.hid hz
            clear hz
            go_wp2_with fail
            go_ret2
            refine ⟨?_, hb18⟩
            rw [HE.out, HCUT, HNEG.out, HZ.out]
            rfl
      · by_cases h3 : c < 0
        · have hneg : neg3 a b c = true := by unfold neg3; simp [h1, h2, h3]
          have HNEG := Lib.hid hneg
          clear hneg hA hB hC
          go_enter Tryz.func62, Tryz.ntmps62
          go_wp2_with fail
          refine (HSA.out _).mono ?_
          rintro e w1 ⟨rfl, rfl⟩
          go_wp2_with fail
          refine (of_any A HA.out _).mono ?_
          rintro e w1 ⟨v1, l1, rfl, hl1, hn1, hlen1, hb1⟩
          have L1 := Lib.hid hl1
          have N1 := Lib.hid hn1
          clear hl1 hn1
          go_wp2_with fail
          refine (HSB.out _).mono ?_
          rintro e w2 ⟨rfl, rfl⟩
          go_wp2_with fail
          refine (of_any B HB.out _).mono ?_
          rintro e w2 ⟨v2, l2, rfl, hl2, hn2, hlen2, hb2⟩
          have hb12 := hb1.trans (hb2.mono hb1.size)
          have L2 := Lib.hid hl2
          have N2 := Lib.hid hn2
          have L1' := Lib.hid (L1.out.below hb2)
          clear hl2 hn2
          go_wp2_with fail
          refine (refTimes_any _ _ l1 l2 _ L1'.out L2.out (by omega)).mono ?_
          rintro e w3 ⟨v3, l3, rfl, hl3, hn3, hlen3, hb3⟩
          have hb13 := hb12.trans (hb3.mono hb12.size)
          have L3 := Lib.hid hl3
          have N3 := Lib.hid hn3
          clear hl3 hn3
          go_wp2_with fail
          refine (HSC.out _).mono ?_
          rintro e w4 ⟨rfl, rfl⟩
          go_wp2_with fail
          refine (of_any C HC.out _).mono ?_
          rintro e w4 ⟨v4, l4, rfl, hl4, hn4, hlen4, hb4⟩
          have hb14 := hb13.trans (hb4.mono hb13.size)
          have L4 := Lib.hid hl4
          have N4 := Lib.hid hn4
          have L3' := Lib.hid (L3.out.below hb4)
          clear hl4 hn4
          go_wp2_with fail
          refine (refDivide_any _ _ l3 l4 _ L3'.out L4.out (by rw [N4.out]; exact hC0) (by omega)).mono ?_
          rintro e w5 ⟨vq, vr, q, r, rfl, hq, hr, hqn, hrn, hql, hrl, hb5⟩
          have hb15 := hb14.trans (hb5.mono hb14.size)
          have QN : Hid (longN q = A * B / C) := by rw [hqn, N3.out, N1.out, N2.out, N4.out]; exact rfl
          have RN : Hid (longN r = A * B % C) := by rw [hrn, N3.out, N1.out, N2.out, N4.out]; exact rfl
          have LQ := Lib.hid hq
          have LR := Lib.hid hr
          have L4' := Lib.hid (L4.out.below hb5)
          clear hq hr hqn hrn
          by_cases hr0 : longN r = 0
          · have hdt : decide (longN r = 0) = true := decide_eq_true hr0
            have HR0 := Lib.hid hr0
            clear hr0
            go_wp2_with fail
            refine (refZero_any _ r _ LR.out).mono ?_
            rintro e w6 ⟨rfl, hb6⟩
            simp only [hdt]
            have hb16 := hb15.trans (hb6.mono hb15.size)
            have LQ6 := Lib.hid (LQ.out.below hb6)
            have HCUT : (cutQ a b c fun r => neg3 a b c && r != 0) = A * B / C := CUT0.out _ (by rw [HNEG.out, ← RN.out, HR0.out]; rfl)
            go_wp2_with fail
            refine (refNumber_any _ q _ _ LQ6.out).mono ?_
            rintro e w9 ⟨rfl, rfl⟩
            rw [QN.out]
            obtain ⟨z, k, hz⟩ := told_pair (A * B / C) true
            rw [hz]
            have HZ := Lib.hid hz
            clear hz
            go_wp2_with fail
            go_ret2
            refine ⟨?_, hb16⟩
            rw [HE.out, HCUT, HNEG.out, HZ.out]
            rfl
          · have hdt : decide (longN r = 0) = false := decide_eq_false hr0
            have HR0 := Lib.hid hr0
            clear hr0
            go_wp2_with fail
            refine (refZero_any _ r _ LR.out).mono ?_
            rintro e w6 ⟨rfl, hb6⟩
            simp only [hdt]
            have hb16 := hb15.trans (hb6.mono hb15.size)
            have LQ6 := Lib.hid (LQ.out.below hb6)
            have HCUT : (cutQ a b c fun r => neg3 a b c && r != 0) = A * B / C + 1 := CUT1.out _ (by rw [HNEG.out, ← RN.out]; have := HR0.out; simp [this])
            go_wp2_with fail
            refine (refPlusOne_any _ q _ LQ6.out (by omega)).mono ?_
            rintro e w8 ⟨v8, l8, rfl, hl8, hn8, hlen8, hb8⟩
            have hb18 := hb16.trans (hb8.mono hb16.size)
            have L8 := Lib.hid hl8
            have N8 := Lib.hid hn8
            clear hl8 hn8
            go_wp2_with fail
            refine (refNumber_any _ l8 _ _ L8.out).mono ?_
            rintro e w9 ⟨rfl, rfl⟩
            rw [N8.out, QN.out]
            obtain ⟨z, k, hz⟩ := told_pair (A * B / C + 1) true
            rw [hz]
            have HZ := Lib.hid hz
            clear hz
            go_wp2_with fail
            go_ret2
            refine ⟨?_, hb18⟩
            rw [HE.out, HCUT, HNEG.out, HZ.out]
            rfl
        · have hneg : neg3 a b c = false := by unfold neg3; simp [h1, h2, h3]
          have HNEG := Lib.hid hneg
          clear hneg hA hB hC
          go_enter Tryz.func62, Tryz.ntmps62
          go_wp2_with fail
          refine (HSA.out _).mono ?_
          rintro e w1 ⟨rfl, rfl⟩
          go_wp2_with fail
          refine (of_any A HA.out _).mono ?_
          rintro e w1 ⟨v1, l1, rfl, hl1, hn1, hlen1, hb1⟩
          have L1 := Lib.hid hl1
          have N1 := Lib.hid hn1
          clear hl1 hn1
          go_wp2_with fail
          refine (HSB.out _).mono ?_
          rintro e w2 ⟨rfl, rfl⟩
          go_wp2_with fail
          refine (of_any B HB.out _).mono ?_
          rintro e w2 ⟨v2, l2, rfl, hl2, hn2, hlen2, hb2⟩
          have hb12 := hb1.trans (hb2.mono hb1.size)
          have L2 := Lib.hid hl2
          have N2 := Lib.hid hn2
          have L1' := Lib.hid (L1.out.below hb2)
          clear hl2 hn2
          go_wp2_with fail
          refine (refTimes_any _ _ l1 l2 _ L1'.out L2.out (by omega)).mono ?_
          rintro e w3 ⟨v3, l3, rfl, hl3, hn3, hlen3, hb3⟩
          have hb13 := hb12.trans (hb3.mono hb12.size)
          have L3 := Lib.hid hl3
          have N3 := Lib.hid hn3
          clear hl3 hn3
          go_wp2_with fail
          refine (HSC.out _).mono ?_
          rintro e w4 ⟨rfl, rfl⟩
          go_wp2_with fail
          refine (of_any C HC.out _).mono ?_
          rintro e w4 ⟨v4, l4, rfl, hl4, hn4, hlen4, hb4⟩
          have hb14 := hb13.trans (hb4.mono hb13.size)
          have L4 := Lib.hid hl4
          have N4 := Lib.hid hn4
          have L3' := Lib.hid (L3.out.below hb4)
          clear hl4 hn4
          go_wp2_with fail
          refine (refDivide_any _ _ l3 l4 _ L3'.out L4.out (by rw [N4.out]; exact hC0) (by omega)).mono ?_
          rintro e w5 ⟨vq, vr, q, r, rfl, hq, hr, hqn, hrn, hql, hrl, hb5⟩
          have hb15 := hb14.trans (hb5.mono hb14.size)
          have QN : Hid (longN q = A * B / C) := by rw [hqn, N3.out, N1.out, N2.out, N4.out]; exact rfl
          have RN : Hid (longN r = A * B % C) := by rw [hrn, N3.out, N1.out, N2.out, N4.out]; exact rfl
          have LQ := Lib.hid hq
          have LR := Lib.hid hr
          have L4' := Lib.hid (L4.out.below hb5)
          clear hq hr hqn hrn
          have HCUT : (cutQ a b c fun r => neg3 a b c && r != 0) = A * B / C := CUT0.out _ (by rw [HNEG.out]; rfl)
          go_wp2_with fail
          refine (refNumber_any _ q _ _ LQ.out).mono ?_
          rintro e w9 ⟨rfl, rfl⟩
          rw [QN.out]
          obtain ⟨z, k, hz⟩ := told_pair (A * B / C) false
          rw [hz]
          have HZ := Lib.hid hz
          clear hz
          go_wp2_with fail
          go_ret2
          refine ⟨?_, hb15⟩
          rw [HE.out, HCUT, HNEG.out, HZ.out]
          rfl

set_option maxHeartbeats 4000000 in
set_option maxRecDepth 20000 in
theorem refRoundQ (a b c : Int) (ha : I64 a) (hb : I64 b) (hc : I64 c) (w : World) :
    Calls Tryz.prog 62 #[.int .i64 a, .int .i64 b, .int .i64 c, .bool true] w fun e w' => e = told (roundE a b c) ∧ Below w.heap.size w w' := by
  obtain ⟨E, hE⟩ : ∃ E, E = told (roundE a b c) := ⟨_, rfl⟩
  rw [← hE]
  by_cases h0 : c = 0
  · have HE : Hid (E = pair 0 2) := by rw [hE]; unfold roundE; rw [if_pos h0]; exact rfl
    subst h0
    clear hE
    go_enter Tryz.func62, Tryz.ntmps62
    go_wp2_with fail
    go_ret2
    exact ⟨by rw [HE.out]; rfl, Below.refl _ _⟩
  · have hE2 : E = told (endQ (cutQ a b c fun r => decide (c.natAbs ≤ 2 * r)) (neg3 a b c)) := by rw [hE]; unfold roundE; rw [if_neg h0]
    have HE := Lib.hid hE2
    have HSA := Lib.hid (fun w => refSize_any a ha.1 ha.2 w)
    have HSB := Lib.hid (fun w => refSize_any b hb.1 hb.2 w)
    have HSC := Lib.hid (fun w => refSize_any c hc.1 hc.2 w)
    have hA : a.natAbs < 18446744073709551616 := by have := ha.1; have := ha.2; omega
    have hB : b.natAbs < 18446744073709551616 := by have := hb.1; have := hb.2; omega
    have hC : c.natAbs < 18446744073709551616 := by have := hc.1; have := hc.2; omega
    have hC0 : 0 < c.natAbs := by omega
    have cut1 : ∀ m : Nat → Bool, m (a.natAbs * b.natAbs % c.natAbs) = true → cutQ a b c m = a.natAbs * b.natAbs / c.natAbs + 1 := fun m h => by unfold cutQ; rw [if_pos h]
    have cut0 : ∀ m : Nat → Bool, m (a.natAbs * b.natAbs % c.natAbs) = false → cutQ a b c m = a.natAbs * b.natAbs / c.natAbs := fun m h => by unfold cutQ; rw [if_neg (by rw [h]; decide)]
    obtain ⟨A, eA⟩ : ∃ A, A = a.natAbs := ⟨_, rfl⟩
    obtain ⟨B, eB⟩ : ∃ B, B = b.natAbs := ⟨_, rfl⟩
    obtain ⟨C, eC⟩ : ∃ C, C = c.natAbs := ⟨_, rfl⟩
    rw [← eA] at HSA hA
    rw [← eB] at HSB hB
    rw [← eC] at HSC hC hC0
    simp only [← eA, ← eB, ← eC] at cut1 cut0
    have HA := Lib.hid hA
    have HB := Lib.hid hB
    have HC := Lib.hid hC
    have HEC := Lib.hid eC
    have CUT1 := Lib.hid cut1
    have CUT0 := Lib.hid cut0
    clear hE hE2 eA eB eC cut1 cut0
    by_cases h1 : a < 0
    · by_cases h2 : b < 0
      · by_cases h3 : c < 0
        · have hneg : neg3 a b c = true := by unfold neg3; simp [h1, h2, h3]
          have HNEG := Lib.hid hneg
          clear hneg hA hB hC
          go_enter Tryz.func62, Tryz.ntmps62
          go_wp2_with fail
          refine (HSA.out _).mono ?_
          rintro e w1 ⟨rfl, rfl⟩
          go_wp2_with fail
          refine (of_any A HA.out _).mono ?_
          rintro e w1 ⟨v1, l1, rfl, hl1, hn1, hlen1, hb1⟩
          have L1 := Lib.hid hl1
          have N1 := Lib.hid hn1
          clear hl1 hn1
          go_wp2_with fail
          refine (HSB.out _).mono ?_
          rintro e w2 ⟨rfl, rfl⟩
          go_wp2_with fail
          refine (of_any B HB.out _).mono ?_
          rintro e w2 ⟨v2, l2, rfl, hl2, hn2, hlen2, hb2⟩
          have hb12 := hb1.trans (hb2.mono hb1.size)
          have L2 := Lib.hid hl2
          have N2 := Lib.hid hn2
          have L1' := Lib.hid (L1.out.below hb2)
          clear hl2 hn2
          go_wp2_with fail
          refine (refTimes_any _ _ l1 l2 _ L1'.out L2.out (by omega)).mono ?_
          rintro e w3 ⟨v3, l3, rfl, hl3, hn3, hlen3, hb3⟩
          have hb13 := hb12.trans (hb3.mono hb12.size)
          have L3 := Lib.hid hl3
          have N3 := Lib.hid hn3
          clear hl3 hn3
          go_wp2_with fail
          refine (HSC.out _).mono ?_
          rintro e w4 ⟨rfl, rfl⟩
          go_wp2_with fail
          refine (of_any C HC.out _).mono ?_
          rintro e w4 ⟨v4, l4, rfl, hl4, hn4, hlen4, hb4⟩
          have hb14 := hb13.trans (hb4.mono hb13.size)
          have L4 := Lib.hid hl4
          have N4 := Lib.hid hn4
          have L3' := Lib.hid (L3.out.below hb4)
          clear hl4 hn4
          go_wp2_with fail
          refine (refDivide_any _ _ l3 l4 _ L3'.out L4.out (by rw [N4.out]; exact hC0) (by omega)).mono ?_
          rintro e w5 ⟨vq, vr, q, r, rfl, hq, hr, hqn, hrn, hql, hrl, hb5⟩
          have hb15 := hb14.trans (hb5.mono hb14.size)
          have QN : Hid (longN q = A * B / C) := by rw [hqn, N3.out, N1.out, N2.out, N4.out]; exact rfl
          have RN : Hid (longN r = A * B % C) := by rw [hrn, N3.out, N1.out, N2.out, N4.out]; exact rfl
          have LQ := Lib.hid hq
          have LR := Lib.hid hr
          have L4' := Lib.hid (L4.out.below hb5)
          clear hq hr hqn hrn
          by_cases hr0 : longN r = 0
          · have hdt0 : decide (longN r = 0) = true := decide_eq_true hr0
            clear hr0
            go_wp2_with fail
            refine (refZero_any _ r _ LR.out).mono ?_
            rintro e w6 ⟨rfl, hb6⟩
            simp only [hdt0]
            have hb16 := hb15.trans (hb6.mono hb15.size)
            have LQ6 := Lib.hid (LQ.out.below hb6)
            have LR6 := Lib.hid (LR.out.below hb6)
            have L46 := Lib.hid (L4'.out.below hb6)
            go_wp2_with fail
            refine (refDouble_any _ r 0 _ LR6.out (by omega) (by omega)).mono ?_
            rintro e w7 ⟨v7, l7, rfl, hl7, hn7, hlen7, hb7⟩
            have hb17 := hb16.trans (hb7.mono hb16.size)
            have LQ7 := Lib.hid (LQ6.out.below hb7)
            have L7 := Lib.hid hl7
            have L47 := Lib.hid (L46.out.below hb7)
            have N7 : Hid (longN l7 = 2 * (A * B % C)) := by rw [hn7, RN.out]; exact rfl
            clear hl7 hn7
            by_cases hc7 : longN l7 < longN l4
            · have hdt : decide (longN l7 < longN l4) = true := decide_eq_true hc7
              have HC7 := Lib.hid hc7
              clear hc7
              go_wp2_with fail
              refine (refLess_any _ _ l7 l4 _ L7.out L47.out).mono ?_
              rintro e w6 ⟨rfl, rfl⟩
              simp only [hdt]
              have HCUT : (cutQ a b c fun r => decide (c.natAbs ≤ 2 * r)) = A * B / C := CUT0.out _ (by have := HC7.out; rw [N7.out, N4.out] at this; rw [← HEC.out]; exact decide_eq_false (by omega))
              go_wp2_with fail
              refine (refNumber_any _ q _ _ LQ7.out).mono ?_
              rintro e w9 ⟨rfl, rfl⟩
              rw [QN.out]
              obtain ⟨z, k, hz⟩ := told_pair (A * B / C) true
              rw [hz]
              have HZ := Lib.hid hz
              clear hz
              go_wp2_with fail
              go_ret2
              refine ⟨?_, hb17⟩
              rw [HE.out, HCUT, HNEG.out, HZ.out]
              rfl
            · have hdt : decide (longN l7 < longN l4) = false := decide_eq_false hc7
              have HC7 := Lib.hid hc7
              clear hc7
              go_wp2_with fail
              refine (refLess_any _ _ l7 l4 _ L7.out L47.out).mono ?_
              rintro e w6 ⟨rfl, rfl⟩
              simp only [hdt]
              have HCUT : (cutQ a b c fun r => decide (c.natAbs ≤ 2 * r)) = A * B / C + 1 := CUT1.out _ (by have := HC7.out; rw [N7.out, N4.out] at this; rw [← HEC.out]; exact decide_eq_true (by omega))
              go_wp2_with fail
              refine (refPlusOne_any _ q _ LQ7.out (by omega)).mono ?_
              rintro e w8 ⟨v8, l8, rfl, hl8, hn8, hlen8, hb8⟩
              have hb18 := hb17.trans (hb8.mono hb17.size)
              have L8 := Lib.hid hl8
              have N8 := Lib.hid hn8
              clear hl8 hn8
              go_wp2_with fail
              refine (refNumber_any _ l8 _ _ L8.out).mono ?_
              rintro e w9 ⟨rfl, rfl⟩
              rw [N8.out, QN.out]
              obtain ⟨z, k, hz⟩ := told_pair (A * B / C + 1) true
              rw [hz]
              have HZ := Lib.hid hz
              clear hz
              go_wp2_with fail
              go_ret2
              refine ⟨?_, hb18⟩
              rw [HE.out, HCUT, HNEG.out, HZ.out]
              rfl
          · have hdt0 : decide (longN r = 0) = false := decide_eq_false hr0
            clear hr0
            go_wp2_with fail
            refine (refZero_any _ r _ LR.out).mono ?_
            rintro e w6 ⟨rfl, hb6⟩
            simp only [hdt0]
            have hb16 := hb15.trans (hb6.mono hb15.size)
            have LQ6 := Lib.hid (LQ.out.below hb6)
            have LR6 := Lib.hid (LR.out.below hb6)
            have L46 := Lib.hid (L4'.out.below hb6)
            go_wp2_with fail
            refine (refDouble_any _ r 0 _ LR6.out (by omega) (by omega)).mono ?_
            rintro e w7 ⟨v7, l7, rfl, hl7, hn7, hlen7, hb7⟩
            have hb17 := hb16.trans (hb7.mono hb16.size)
            have LQ7 := Lib.hid (LQ6.out.below hb7)
            have L7 := Lib.hid hl7
            have L47 := Lib.hid (L46.out.below hb7)
            have N7 : Hid (longN l7 = 2 * (A * B % C)) := by rw [hn7, RN.out]; exact rfl
            clear hl7 hn7
            by_cases hc7 : longN l7 < longN l4
            · have hdt : decide (longN l7 < longN l4) = true := decide_eq_true hc7
              have HC7 := Lib.hid hc7
              clear hc7
              go_wp2_with fail
              refine (refLess_any _ _ l7 l4 _ L7.out L47.out).mono ?_
              rintro e w6 ⟨rfl, rfl⟩
              simp only [hdt]
              have HCUT : (cutQ a b c fun r => decide (c.natAbs ≤ 2 * r)) = A * B / C := CUT0.out _ (by have := HC7.out; rw [N7.out, N4.out] at this; rw [← HEC.out]; exact decide_eq_false (by omega))
              go_wp2_with fail
              refine (refNumber_any _ q _ _ LQ7.out).mono ?_
              rintro e w9 ⟨rfl, rfl⟩
              rw [QN.out]
              obtain ⟨z, k, hz⟩ := told_pair (A * B / C) true
              rw [hz]
              have HZ := Lib.hid hz
              clear hz
              go_wp2_with fail
              go_ret2
              refine ⟨?_, hb17⟩
              rw [HE.out, HCUT, HNEG.out, HZ.out]
              rfl
            · have hdt : decide (longN l7 < longN l4) = false := decide_eq_false hc7
              have HC7 := Lib.hid hc7
              clear hc7
              go_wp2_with fail
              refine (refLess_any _ _ l7 l4 _ L7.out L47.out).mono ?_
              rintro e w6 ⟨rfl, rfl⟩
              simp only [hdt]
              have HCUT : (cutQ a b c fun r => decide (c.natAbs ≤ 2 * r)) = A * B / C + 1 := CUT1.out _ (by have := HC7.out; rw [N7.out, N4.out] at this; rw [← HEC.out]; exact decide_eq_true (by omega))
              go_wp2_with fail
              refine (refPlusOne_any _ q _ LQ7.out (by omega)).mono ?_
              rintro e w8 ⟨v8, l8, rfl, hl8, hn8, hlen8, hb8⟩
              have hb18 := hb17.trans (hb8.mono hb17.size)
              have L8 := Lib.hid hl8
              have N8 := Lib.hid hn8
              clear hl8 hn8
              go_wp2_with fail
              refine (refNumber_any _ l8 _ _ L8.out).mono ?_
              rintro e w9 ⟨rfl, rfl⟩
              rw [N8.out, QN.out]
              obtain ⟨z, k, hz⟩ := told_pair (A * B / C + 1) true
              rw [hz]
              have HZ := Lib.hid hz
              clear hz
              go_wp2_with fail
              go_ret2
              refine ⟨?_, hb18⟩
              rw [HE.out, HCUT, HNEG.out, HZ.out]
              rfl
        · have hneg : neg3 a b c = false := by unfold neg3; simp [h1, h2, h3]
          have HNEG := Lib.hid hneg
          clear hneg hA hB hC
          go_enter Tryz.func62, Tryz.ntmps62
          go_wp2_with fail
          refine (HSA.out _).mono ?_
          rintro e w1 ⟨rfl, rfl⟩
          go_wp2_with fail
          refine (of_any A HA.out _).mono ?_
          rintro e w1 ⟨v1, l1, rfl, hl1, hn1, hlen1, hb1⟩
          have L1 := Lib.hid hl1
          have N1 := Lib.hid hn1
          clear hl1 hn1
          go_wp2_with fail
          refine (HSB.out _).mono ?_
          rintro e w2 ⟨rfl, rfl⟩
          go_wp2_with fail
          refine (of_any B HB.out _).mono ?_
          rintro e w2 ⟨v2, l2, rfl, hl2, hn2, hlen2, hb2⟩
          have hb12 := hb1.trans (hb2.mono hb1.size)
          have L2 := Lib.hid hl2
          have N2 := Lib.hid hn2
          have L1' := Lib.hid (L1.out.below hb2)
          clear hl2 hn2
          go_wp2_with fail
          refine (refTimes_any _ _ l1 l2 _ L1'.out L2.out (by omega)).mono ?_
          rintro e w3 ⟨v3, l3, rfl, hl3, hn3, hlen3, hb3⟩
          have hb13 := hb12.trans (hb3.mono hb12.size)
          have L3 := Lib.hid hl3
          have N3 := Lib.hid hn3
          clear hl3 hn3
          go_wp2_with fail
          refine (HSC.out _).mono ?_
          rintro e w4 ⟨rfl, rfl⟩
          go_wp2_with fail
          refine (of_any C HC.out _).mono ?_
          rintro e w4 ⟨v4, l4, rfl, hl4, hn4, hlen4, hb4⟩
          have hb14 := hb13.trans (hb4.mono hb13.size)
          have L4 := Lib.hid hl4
          have N4 := Lib.hid hn4
          have L3' := Lib.hid (L3.out.below hb4)
          clear hl4 hn4
          go_wp2_with fail
          refine (refDivide_any _ _ l3 l4 _ L3'.out L4.out (by rw [N4.out]; exact hC0) (by omega)).mono ?_
          rintro e w5 ⟨vq, vr, q, r, rfl, hq, hr, hqn, hrn, hql, hrl, hb5⟩
          have hb15 := hb14.trans (hb5.mono hb14.size)
          have QN : Hid (longN q = A * B / C) := by rw [hqn, N3.out, N1.out, N2.out, N4.out]; exact rfl
          have RN : Hid (longN r = A * B % C) := by rw [hrn, N3.out, N1.out, N2.out, N4.out]; exact rfl
          have LQ := Lib.hid hq
          have LR := Lib.hid hr
          have L4' := Lib.hid (L4.out.below hb5)
          clear hq hr hqn hrn
          go_wp2_with fail
          refine (refDouble_any _ r 0 _ LR.out (by omega) (by omega)).mono ?_
          rintro e w7 ⟨v7, l7, rfl, hl7, hn7, hlen7, hb7⟩
          have hb17 := hb15.trans (hb7.mono hb15.size)
          have LQ7 := Lib.hid (LQ.out.below hb7)
          have L7 := Lib.hid hl7
          have L47 := Lib.hid (L4'.out.below hb7)
          have N7 : Hid (longN l7 = 2 * (A * B % C)) := by rw [hn7, RN.out]; exact rfl
          clear hl7 hn7
          by_cases hc7 : longN l7 < longN l4
          · have hdt : decide (longN l7 < longN l4) = true := decide_eq_true hc7
            have HC7 := Lib.hid hc7
            clear hc7
            go_wp2_with fail
            refine (refLess_any _ _ l7 l4 _ L7.out L47.out).mono ?_
            rintro e w6 ⟨rfl, rfl⟩
            simp only [hdt]
            have HCUT : (cutQ a b c fun r => decide (c.natAbs ≤ 2 * r)) = A * B / C := CUT0.out _ (by have := HC7.out; rw [N7.out, N4.out] at this; rw [← HEC.out]; exact decide_eq_false (by omega))
            go_wp2_with fail
            refine (refNumber_any _ q _ _ LQ7.out).mono ?_
            rintro e w9 ⟨rfl, rfl⟩
            rw [QN.out]
            obtain ⟨z, k, hz⟩ := told_pair (A * B / C) false
            rw [hz]
            have HZ := Lib.hid hz
            clear hz
            go_wp2_with fail
            go_ret2
            refine ⟨?_, hb17⟩
            rw [HE.out, HCUT, HNEG.out, HZ.out]
            rfl
          · have hdt : decide (longN l7 < longN l4) = false := decide_eq_false hc7
            have HC7 := Lib.hid hc7
            clear hc7
            go_wp2_with fail
            refine (refLess_any _ _ l7 l4 _ L7.out L47.out).mono ?_
            rintro e w6 ⟨rfl, rfl⟩
            simp only [hdt]
            have HCUT : (cutQ a b c fun r => decide (c.natAbs ≤ 2 * r)) = A * B / C + 1 := CUT1.out _ (by have := HC7.out; rw [N7.out, N4.out] at this; rw [← HEC.out]; exact decide_eq_true (by omega))
            go_wp2_with fail
            refine (refPlusOne_any _ q _ LQ7.out (by omega)).mono ?_
            rintro e w8 ⟨v8, l8, rfl, hl8, hn8, hlen8, hb8⟩
            have hb18 := hb17.trans (hb8.mono hb17.size)
            have L8 := Lib.hid hl8
            have N8 := Lib.hid hn8
            clear hl8 hn8
            go_wp2_with fail
            refine (refNumber_any _ l8 _ _ L8.out).mono ?_
            rintro e w9 ⟨rfl, rfl⟩
            rw [N8.out, QN.out]
            obtain ⟨z, k, hz⟩ := told_pair (A * B / C + 1) false
            rw [hz]
            have HZ := Lib.hid hz
            clear hz
            go_wp2_with fail
            go_ret2
            refine ⟨?_, hb18⟩
            rw [HE.out, HCUT, HNEG.out, HZ.out]
            rfl
      · by_cases h3 : c < 0
        · have hneg : neg3 a b c = false := by unfold neg3; simp [h1, h2, h3]
          have HNEG := Lib.hid hneg
          clear hneg hA hB hC
          go_enter Tryz.func62, Tryz.ntmps62
          go_wp2_with fail
          refine (HSA.out _).mono ?_
          rintro e w1 ⟨rfl, rfl⟩
          go_wp2_with fail
          refine (of_any A HA.out _).mono ?_
          rintro e w1 ⟨v1, l1, rfl, hl1, hn1, hlen1, hb1⟩
          have L1 := Lib.hid hl1
          have N1 := Lib.hid hn1
          clear hl1 hn1
          go_wp2_with fail
          refine (HSB.out _).mono ?_
          rintro e w2 ⟨rfl, rfl⟩
          go_wp2_with fail
          refine (of_any B HB.out _).mono ?_
          rintro e w2 ⟨v2, l2, rfl, hl2, hn2, hlen2, hb2⟩
          have hb12 := hb1.trans (hb2.mono hb1.size)
          have L2 := Lib.hid hl2
          have N2 := Lib.hid hn2
          have L1' := Lib.hid (L1.out.below hb2)
          clear hl2 hn2
          go_wp2_with fail
          refine (refTimes_any _ _ l1 l2 _ L1'.out L2.out (by omega)).mono ?_
          rintro e w3 ⟨v3, l3, rfl, hl3, hn3, hlen3, hb3⟩
          have hb13 := hb12.trans (hb3.mono hb12.size)
          have L3 := Lib.hid hl3
          have N3 := Lib.hid hn3
          clear hl3 hn3
          go_wp2_with fail
          refine (HSC.out _).mono ?_
          rintro e w4 ⟨rfl, rfl⟩
          go_wp2_with fail
          refine (of_any C HC.out _).mono ?_
          rintro e w4 ⟨v4, l4, rfl, hl4, hn4, hlen4, hb4⟩
          have hb14 := hb13.trans (hb4.mono hb13.size)
          have L4 := Lib.hid hl4
          have N4 := Lib.hid hn4
          have L3' := Lib.hid (L3.out.below hb4)
          clear hl4 hn4
          go_wp2_with fail
          refine (refDivide_any _ _ l3 l4 _ L3'.out L4.out (by rw [N4.out]; exact hC0) (by omega)).mono ?_
          rintro e w5 ⟨vq, vr, q, r, rfl, hq, hr, hqn, hrn, hql, hrl, hb5⟩
          have hb15 := hb14.trans (hb5.mono hb14.size)
          have QN : Hid (longN q = A * B / C) := by rw [hqn, N3.out, N1.out, N2.out, N4.out]; exact rfl
          have RN : Hid (longN r = A * B % C) := by rw [hrn, N3.out, N1.out, N2.out, N4.out]; exact rfl
          have LQ := Lib.hid hq
          have LR := Lib.hid hr
          have L4' := Lib.hid (L4.out.below hb5)
          clear hq hr hqn hrn
          go_wp2_with fail
          refine (refDouble_any _ r 0 _ LR.out (by omega) (by omega)).mono ?_
          rintro e w7 ⟨v7, l7, rfl, hl7, hn7, hlen7, hb7⟩
          have hb17 := hb15.trans (hb7.mono hb15.size)
          have LQ7 := Lib.hid (LQ.out.below hb7)
          have L7 := Lib.hid hl7
          have L47 := Lib.hid (L4'.out.below hb7)
          have N7 : Hid (longN l7 = 2 * (A * B % C)) := by rw [hn7, RN.out]; exact rfl
          clear hl7 hn7
          by_cases hc7 : longN l7 < longN l4
          · have hdt : decide (longN l7 < longN l4) = true := decide_eq_true hc7
            have HC7 := Lib.hid hc7
            clear hc7
            go_wp2_with fail
            refine (refLess_any _ _ l7 l4 _ L7.out L47.out).mono ?_
            rintro e w6 ⟨rfl, rfl⟩
            simp only [hdt]
            have HCUT : (cutQ a b c fun r => decide (c.natAbs ≤ 2 * r)) = A * B / C := CUT0.out _ (by have := HC7.out; rw [N7.out, N4.out] at this; rw [← HEC.out]; exact decide_eq_false (by omega))
            go_wp2_with fail
            refine (refNumber_any _ q _ _ LQ7.out).mono ?_
            rintro e w9 ⟨rfl, rfl⟩
            rw [QN.out]
            obtain ⟨z, k, hz⟩ := told_pair (A * B / C) false
            rw [hz]
            have HZ := Lib.hid hz
            clear hz
            go_wp2_with fail
            go_ret2
            refine ⟨?_, hb17⟩
            rw [HE.out, HCUT, HNEG.out, HZ.out]
            rfl
          · have hdt : decide (longN l7 < longN l4) = false := decide_eq_false hc7
            have HC7 := Lib.hid hc7
            clear hc7
            go_wp2_with fail
            refine (refLess_any _ _ l7 l4 _ L7.out L47.out).mono ?_
            rintro e w6 ⟨rfl, rfl⟩
            simp only [hdt]
            have HCUT : (cutQ a b c fun r => decide (c.natAbs ≤ 2 * r)) = A * B / C + 1 := CUT1.out _ (by have := HC7.out; rw [N7.out, N4.out] at this; rw [← HEC.out]; exact decide_eq_true (by omega))
            go_wp2_with fail
            refine (refPlusOne_any _ q _ LQ7.out (by omega)).mono ?_
            rintro e w8 ⟨v8, l8, rfl, hl8, hn8, hlen8, hb8⟩
            have hb18 := hb17.trans (hb8.mono hb17.size)
            have L8 := Lib.hid hl8
            have N8 := Lib.hid hn8
            clear hl8 hn8
            go_wp2_with fail
            refine (refNumber_any _ l8 _ _ L8.out).mono ?_
            rintro e w9 ⟨rfl, rfl⟩
            rw [N8.out, QN.out]
            obtain ⟨z, k, hz⟩ := told_pair (A * B / C + 1) false
            rw [hz]
            have HZ := Lib.hid hz
            clear hz
            go_wp2_with fail
            go_ret2
            refine ⟨?_, hb18⟩
            rw [HE.out, HCUT, HNEG.out, HZ.out]
            rfl
        · have hneg : neg3 a b c = true := by unfold neg3; simp [h1, h2, h3]
          have HNEG := Lib.hid hneg
          clear hneg hA hB hC
          go_enter Tryz.func62, Tryz.ntmps62
          go_wp2_with fail
          refine (HSA.out _).mono ?_
          rintro e w1 ⟨rfl, rfl⟩
          go_wp2_with fail
          refine (of_any A HA.out _).mono ?_
          rintro e w1 ⟨v1, l1, rfl, hl1, hn1, hlen1, hb1⟩
          have L1 := Lib.hid hl1
          have N1 := Lib.hid hn1
          clear hl1 hn1
          go_wp2_with fail
          refine (HSB.out _).mono ?_
          rintro e w2 ⟨rfl, rfl⟩
          go_wp2_with fail
          refine (of_any B HB.out _).mono ?_
          rintro e w2 ⟨v2, l2, rfl, hl2, hn2, hlen2, hb2⟩
          have hb12 := hb1.trans (hb2.mono hb1.size)
          have L2 := Lib.hid hl2
          have N2 := Lib.hid hn2
          have L1' := Lib.hid (L1.out.below hb2)
          clear hl2 hn2
          go_wp2_with fail
          refine (refTimes_any _ _ l1 l2 _ L1'.out L2.out (by omega)).mono ?_
          rintro e w3 ⟨v3, l3, rfl, hl3, hn3, hlen3, hb3⟩
          have hb13 := hb12.trans (hb3.mono hb12.size)
          have L3 := Lib.hid hl3
          have N3 := Lib.hid hn3
          clear hl3 hn3
          go_wp2_with fail
          refine (HSC.out _).mono ?_
          rintro e w4 ⟨rfl, rfl⟩
          go_wp2_with fail
          refine (of_any C HC.out _).mono ?_
          rintro e w4 ⟨v4, l4, rfl, hl4, hn4, hlen4, hb4⟩
          have hb14 := hb13.trans (hb4.mono hb13.size)
          have L4 := Lib.hid hl4
          have N4 := Lib.hid hn4
          have L3' := Lib.hid (L3.out.below hb4)
          clear hl4 hn4
          go_wp2_with fail
          refine (refDivide_any _ _ l3 l4 _ L3'.out L4.out (by rw [N4.out]; exact hC0) (by omega)).mono ?_
          rintro e w5 ⟨vq, vr, q, r, rfl, hq, hr, hqn, hrn, hql, hrl, hb5⟩
          have hb15 := hb14.trans (hb5.mono hb14.size)
          have QN : Hid (longN q = A * B / C) := by rw [hqn, N3.out, N1.out, N2.out, N4.out]; exact rfl
          have RN : Hid (longN r = A * B % C) := by rw [hrn, N3.out, N1.out, N2.out, N4.out]; exact rfl
          have LQ := Lib.hid hq
          have LR := Lib.hid hr
          have L4' := Lib.hid (L4.out.below hb5)
          clear hq hr hqn hrn
          by_cases hr0 : longN r = 0
          · have hdt0 : decide (longN r = 0) = true := decide_eq_true hr0
            clear hr0
            go_wp2_with fail
            refine (refZero_any _ r _ LR.out).mono ?_
            rintro e w6 ⟨rfl, hb6⟩
            simp only [hdt0]
            have hb16 := hb15.trans (hb6.mono hb15.size)
            have LQ6 := Lib.hid (LQ.out.below hb6)
            have LR6 := Lib.hid (LR.out.below hb6)
            have L46 := Lib.hid (L4'.out.below hb6)
            go_wp2_with fail
            refine (refDouble_any _ r 0 _ LR6.out (by omega) (by omega)).mono ?_
            rintro e w7 ⟨v7, l7, rfl, hl7, hn7, hlen7, hb7⟩
            have hb17 := hb16.trans (hb7.mono hb16.size)
            have LQ7 := Lib.hid (LQ6.out.below hb7)
            have L7 := Lib.hid hl7
            have L47 := Lib.hid (L46.out.below hb7)
            have N7 : Hid (longN l7 = 2 * (A * B % C)) := by rw [hn7, RN.out]; exact rfl
            clear hl7 hn7
            by_cases hc7 : longN l7 < longN l4
            · have hdt : decide (longN l7 < longN l4) = true := decide_eq_true hc7
              have HC7 := Lib.hid hc7
              clear hc7
              go_wp2_with fail
              refine (refLess_any _ _ l7 l4 _ L7.out L47.out).mono ?_
              rintro e w6 ⟨rfl, rfl⟩
              simp only [hdt]
              have HCUT : (cutQ a b c fun r => decide (c.natAbs ≤ 2 * r)) = A * B / C := CUT0.out _ (by have := HC7.out; rw [N7.out, N4.out] at this; rw [← HEC.out]; exact decide_eq_false (by omega))
              go_wp2_with fail
              refine (refNumber_any _ q _ _ LQ7.out).mono ?_
              rintro e w9 ⟨rfl, rfl⟩
              rw [QN.out]
              obtain ⟨z, k, hz⟩ := told_pair (A * B / C) true
              rw [hz]
              have HZ := Lib.hid hz
              clear hz
              go_wp2_with fail
              go_ret2
              refine ⟨?_, hb17⟩
              rw [HE.out, HCUT, HNEG.out, HZ.out]
              rfl
            · have hdt : decide (longN l7 < longN l4) = false := decide_eq_false hc7
              have HC7 := Lib.hid hc7
              clear hc7
              go_wp2_with fail
              refine (refLess_any _ _ l7 l4 _ L7.out L47.out).mono ?_
              rintro e w6 ⟨rfl, rfl⟩
              simp only [hdt]
              have HCUT : (cutQ a b c fun r => decide (c.natAbs ≤ 2 * r)) = A * B / C + 1 := CUT1.out _ (by have := HC7.out; rw [N7.out, N4.out] at this; rw [← HEC.out]; exact decide_eq_true (by omega))
              go_wp2_with fail
              refine (refPlusOne_any _ q _ LQ7.out (by omega)).mono ?_
              rintro e w8 ⟨v8, l8, rfl, hl8, hn8, hlen8, hb8⟩
              have hb18 := hb17.trans (hb8.mono hb17.size)
              have L8 := Lib.hid hl8
              have N8 := Lib.hid hn8
              clear hl8 hn8
              go_wp2_with fail
              refine (refNumber_any _ l8 _ _ L8.out).mono ?_
              rintro e w9 ⟨rfl, rfl⟩
              rw [N8.out, QN.out]
              obtain ⟨z, k, hz⟩ := told_pair (A * B / C + 1) true
              rw [hz]
              have HZ := Lib.hid hz
              clear hz
              go_wp2_with fail
              go_ret2
              refine ⟨?_, hb18⟩
              rw [HE.out, HCUT, HNEG.out, HZ.out]
              rfl
          · have hdt0 : decide (longN r = 0) = false := decide_eq_false hr0
            clear hr0
            go_wp2_with fail
            refine (refZero_any _ r _ LR.out).mono ?_
            rintro e w6 ⟨rfl, hb6⟩
            simp only [hdt0]
            have hb16 := hb15.trans (hb6.mono hb15.size)
            have LQ6 := Lib.hid (LQ.out.below hb6)
            have LR6 := Lib.hid (LR.out.below hb6)
            have L46 := Lib.hid (L4'.out.below hb6)
            go_wp2_with fail
            refine (refDouble_any _ r 0 _ LR6.out (by omega) (by omega)).mono ?_
            rintro e w7 ⟨v7, l7, rfl, hl7, hn7, hlen7, hb7⟩
            have hb17 := hb16.trans (hb7.mono hb16.size)
            have LQ7 := Lib.hid (LQ6.out.below hb7)
            have L7 := Lib.hid hl7
            have L47 := Lib.hid (L46.out.below hb7)
            have N7 : Hid (longN l7 = 2 * (A * B % C)) := by rw [hn7, RN.out]; exact rfl
            clear hl7 hn7
            by_cases hc7 : longN l7 < longN l4
            · have hdt : decide (longN l7 < longN l4) = true := decide_eq_true hc7
              have HC7 := Lib.hid hc7
              clear hc7
              go_wp2_with fail
              refine (refLess_any _ _ l7 l4 _ L7.out L47.out).mono ?_
              rintro e w6 ⟨rfl, rfl⟩
              simp only [hdt]
              have HCUT : (cutQ a b c fun r => decide (c.natAbs ≤ 2 * r)) = A * B / C := CUT0.out _ (by have := HC7.out; rw [N7.out, N4.out] at this; rw [← HEC.out]; exact decide_eq_false (by omega))
              go_wp2_with fail
              refine (refNumber_any _ q _ _ LQ7.out).mono ?_
              rintro e w9 ⟨rfl, rfl⟩
              rw [QN.out]
              obtain ⟨z, k, hz⟩ := told_pair (A * B / C) true
              rw [hz]
              have HZ := Lib.hid hz
              clear hz
              go_wp2_with fail
              go_ret2
              refine ⟨?_, hb17⟩
              rw [HE.out, HCUT, HNEG.out, HZ.out]
              rfl
            · have hdt : decide (longN l7 < longN l4) = false := decide_eq_false hc7
              have HC7 := Lib.hid hc7
              clear hc7
              go_wp2_with fail
              refine (refLess_any _ _ l7 l4 _ L7.out L47.out).mono ?_
              rintro e w6 ⟨rfl, rfl⟩
              simp only [hdt]
              have HCUT : (cutQ a b c fun r => decide (c.natAbs ≤ 2 * r)) = A * B / C + 1 := CUT1.out _ (by have := HC7.out; rw [N7.out, N4.out] at this; rw [← HEC.out]; exact decide_eq_true (by omega))
              go_wp2_with fail
              refine (refPlusOne_any _ q _ LQ7.out (by omega)).mono ?_
              rintro e w8 ⟨v8, l8, rfl, hl8, hn8, hlen8, hb8⟩
              have hb18 := hb17.trans (hb8.mono hb17.size)
              have L8 := Lib.hid hl8
              have N8 := Lib.hid hn8
              clear hl8 hn8
              go_wp2_with fail
              refine (refNumber_any _ l8 _ _ L8.out).mono ?_
              rintro e w9 ⟨rfl, rfl⟩
              rw [N8.out, QN.out]
              obtain ⟨z, k, hz⟩ := told_pair (A * B / C + 1) true
              rw [hz]
              have HZ := Lib.hid hz
              clear hz
              go_wp2_with fail
              go_ret2
              refine ⟨?_, hb18⟩
              rw [HE.out, HCUT, HNEG.out, HZ.out]
              rfl
    · by_cases h2 : b < 0
      · by_cases h3 : c < 0
        · have hneg : neg3 a b c = false := by unfold neg3; simp [h1, h2, h3]
          have HNEG := Lib.hid hneg
          clear hneg hA hB hC
          go_enter Tryz.func62, Tryz.ntmps62
          go_wp2_with fail
          refine (HSA.out _).mono ?_
          rintro e w1 ⟨rfl, rfl⟩
          go_wp2_with fail
          refine (of_any A HA.out _).mono ?_
          rintro e w1 ⟨v1, l1, rfl, hl1, hn1, hlen1, hb1⟩
          have L1 := Lib.hid hl1
          have N1 := Lib.hid hn1
          clear hl1 hn1
          go_wp2_with fail
          refine (HSB.out _).mono ?_
          rintro e w2 ⟨rfl, rfl⟩
          go_wp2_with fail
          refine (of_any B HB.out _).mono ?_
          rintro e w2 ⟨v2, l2, rfl, hl2, hn2, hlen2, hb2⟩
          have hb12 := hb1.trans (hb2.mono hb1.size)
          have L2 := Lib.hid hl2
          have N2 := Lib.hid hn2
          have L1' := Lib.hid (L1.out.below hb2)
          clear hl2 hn2
          go_wp2_with fail
          refine (refTimes_any _ _ l1 l2 _ L1'.out L2.out (by omega)).mono ?_
          rintro e w3 ⟨v3, l3, rfl, hl3, hn3, hlen3, hb3⟩
          have hb13 := hb12.trans (hb3.mono hb12.size)
          have L3 := Lib.hid hl3
          have N3 := Lib.hid hn3
          clear hl3 hn3
          go_wp2_with fail
          refine (HSC.out _).mono ?_
          rintro e w4 ⟨rfl, rfl⟩
          go_wp2_with fail
          refine (of_any C HC.out _).mono ?_
          rintro e w4 ⟨v4, l4, rfl, hl4, hn4, hlen4, hb4⟩
          have hb14 := hb13.trans (hb4.mono hb13.size)
          have L4 := Lib.hid hl4
          have N4 := Lib.hid hn4
          have L3' := Lib.hid (L3.out.below hb4)
          clear hl4 hn4
          go_wp2_with fail
          refine (refDivide_any _ _ l3 l4 _ L3'.out L4.out (by rw [N4.out]; exact hC0) (by omega)).mono ?_
          rintro e w5 ⟨vq, vr, q, r, rfl, hq, hr, hqn, hrn, hql, hrl, hb5⟩
          have hb15 := hb14.trans (hb5.mono hb14.size)
          have QN : Hid (longN q = A * B / C) := by rw [hqn, N3.out, N1.out, N2.out, N4.out]; exact rfl
          have RN : Hid (longN r = A * B % C) := by rw [hrn, N3.out, N1.out, N2.out, N4.out]; exact rfl
          have LQ := Lib.hid hq
          have LR := Lib.hid hr
          have L4' := Lib.hid (L4.out.below hb5)
          clear hq hr hqn hrn
          go_wp2_with fail
          refine (refDouble_any _ r 0 _ LR.out (by omega) (by omega)).mono ?_
          rintro e w7 ⟨v7, l7, rfl, hl7, hn7, hlen7, hb7⟩
          have hb17 := hb15.trans (hb7.mono hb15.size)
          have LQ7 := Lib.hid (LQ.out.below hb7)
          have L7 := Lib.hid hl7
          have L47 := Lib.hid (L4'.out.below hb7)
          have N7 : Hid (longN l7 = 2 * (A * B % C)) := by rw [hn7, RN.out]; exact rfl
          clear hl7 hn7
          by_cases hc7 : longN l7 < longN l4
          · have hdt : decide (longN l7 < longN l4) = true := decide_eq_true hc7
            have HC7 := Lib.hid hc7
            clear hc7
            go_wp2_with fail
            refine (refLess_any _ _ l7 l4 _ L7.out L47.out).mono ?_
            rintro e w6 ⟨rfl, rfl⟩
            simp only [hdt]
            have HCUT : (cutQ a b c fun r => decide (c.natAbs ≤ 2 * r)) = A * B / C := CUT0.out _ (by have := HC7.out; rw [N7.out, N4.out] at this; rw [← HEC.out]; exact decide_eq_false (by omega))
            go_wp2_with fail
            refine (refNumber_any _ q _ _ LQ7.out).mono ?_
            rintro e w9 ⟨rfl, rfl⟩
            rw [QN.out]
            obtain ⟨z, k, hz⟩ := told_pair (A * B / C) false
            rw [hz]
            have HZ := Lib.hid hz
            clear hz
            go_wp2_with fail
            go_ret2
            refine ⟨?_, hb17⟩
            rw [HE.out, HCUT, HNEG.out, HZ.out]
            rfl
          · have hdt : decide (longN l7 < longN l4) = false := decide_eq_false hc7
            have HC7 := Lib.hid hc7
            clear hc7
            go_wp2_with fail
            refine (refLess_any _ _ l7 l4 _ L7.out L47.out).mono ?_
            rintro e w6 ⟨rfl, rfl⟩
            simp only [hdt]
            have HCUT : (cutQ a b c fun r => decide (c.natAbs ≤ 2 * r)) = A * B / C + 1 := CUT1.out _ (by have := HC7.out; rw [N7.out, N4.out] at this; rw [← HEC.out]; exact decide_eq_true (by omega))
            go_wp2_with fail
            refine (refPlusOne_any _ q _ LQ7.out (by omega)).mono ?_
            rintro e w8 ⟨v8, l8, rfl, hl8, hn8, hlen8, hb8⟩
            have hb18 := hb17.trans (hb8.mono hb17.size)
            have L8 := Lib.hid hl8
            have N8 := Lib.hid hn8
            clear hl8 hn8
            go_wp2_with fail
            refine (refNumber_any _ l8 _ _ L8.out).mono ?_
            rintro e w9 ⟨rfl, rfl⟩
            rw [N8.out, QN.out]
            obtain ⟨z, k, hz⟩ := told_pair (A * B / C + 1) false
            rw [hz]
            have HZ := Lib.hid hz
            clear hz
            go_wp2_with fail
            go_ret2
            refine ⟨?_, hb18⟩
            rw [HE.out, HCUT, HNEG.out, HZ.out]
            rfl
        · have hneg : neg3 a b c = true := by unfold neg3; simp [h1, h2, h3]
          have HNEG := Lib.hid hneg
          clear hneg hA hB hC
          go_enter Tryz.func62, Tryz.ntmps62
          go_wp2_with fail
          refine (HSA.out _).mono ?_
          rintro e w1 ⟨rfl, rfl⟩
          go_wp2_with fail
          refine (of_any A HA.out _).mono ?_
          rintro e w1 ⟨v1, l1, rfl, hl1, hn1, hlen1, hb1⟩
          have L1 := Lib.hid hl1
          have N1 := Lib.hid hn1
          clear hl1 hn1
          go_wp2_with fail
          refine (HSB.out _).mono ?_
          rintro e w2 ⟨rfl, rfl⟩
          go_wp2_with fail
          refine (of_any B HB.out _).mono ?_
          rintro e w2 ⟨v2, l2, rfl, hl2, hn2, hlen2, hb2⟩
          have hb12 := hb1.trans (hb2.mono hb1.size)
          have L2 := Lib.hid hl2
          have N2 := Lib.hid hn2
          have L1' := Lib.hid (L1.out.below hb2)
          clear hl2 hn2
          go_wp2_with fail
          refine (refTimes_any _ _ l1 l2 _ L1'.out L2.out (by omega)).mono ?_
          rintro e w3 ⟨v3, l3, rfl, hl3, hn3, hlen3, hb3⟩
          have hb13 := hb12.trans (hb3.mono hb12.size)
          have L3 := Lib.hid hl3
          have N3 := Lib.hid hn3
          clear hl3 hn3
          go_wp2_with fail
          refine (HSC.out _).mono ?_
          rintro e w4 ⟨rfl, rfl⟩
          go_wp2_with fail
          refine (of_any C HC.out _).mono ?_
          rintro e w4 ⟨v4, l4, rfl, hl4, hn4, hlen4, hb4⟩
          have hb14 := hb13.trans (hb4.mono hb13.size)
          have L4 := Lib.hid hl4
          have N4 := Lib.hid hn4
          have L3' := Lib.hid (L3.out.below hb4)
          clear hl4 hn4
          go_wp2_with fail
          refine (refDivide_any _ _ l3 l4 _ L3'.out L4.out (by rw [N4.out]; exact hC0) (by omega)).mono ?_
          rintro e w5 ⟨vq, vr, q, r, rfl, hq, hr, hqn, hrn, hql, hrl, hb5⟩
          have hb15 := hb14.trans (hb5.mono hb14.size)
          have QN : Hid (longN q = A * B / C) := by rw [hqn, N3.out, N1.out, N2.out, N4.out]; exact rfl
          have RN : Hid (longN r = A * B % C) := by rw [hrn, N3.out, N1.out, N2.out, N4.out]; exact rfl
          have LQ := Lib.hid hq
          have LR := Lib.hid hr
          have L4' := Lib.hid (L4.out.below hb5)
          clear hq hr hqn hrn
          by_cases hr0 : longN r = 0
          · have hdt0 : decide (longN r = 0) = true := decide_eq_true hr0
            clear hr0
            go_wp2_with fail
            refine (refZero_any _ r _ LR.out).mono ?_
            rintro e w6 ⟨rfl, hb6⟩
            simp only [hdt0]
            have hb16 := hb15.trans (hb6.mono hb15.size)
            have LQ6 := Lib.hid (LQ.out.below hb6)
            have LR6 := Lib.hid (LR.out.below hb6)
            have L46 := Lib.hid (L4'.out.below hb6)
            go_wp2_with fail
            refine (refDouble_any _ r 0 _ LR6.out (by omega) (by omega)).mono ?_
            rintro e w7 ⟨v7, l7, rfl, hl7, hn7, hlen7, hb7⟩
            have hb17 := hb16.trans (hb7.mono hb16.size)
            have LQ7 := Lib.hid (LQ6.out.below hb7)
            have L7 := Lib.hid hl7
            have L47 := Lib.hid (L46.out.below hb7)
            have N7 : Hid (longN l7 = 2 * (A * B % C)) := by rw [hn7, RN.out]; exact rfl
            clear hl7 hn7
            by_cases hc7 : longN l7 < longN l4
            · have hdt : decide (longN l7 < longN l4) = true := decide_eq_true hc7
              have HC7 := Lib.hid hc7
              clear hc7
              go_wp2_with fail
              refine (refLess_any _ _ l7 l4 _ L7.out L47.out).mono ?_
              rintro e w6 ⟨rfl, rfl⟩
              simp only [hdt]
              have HCUT : (cutQ a b c fun r => decide (c.natAbs ≤ 2 * r)) = A * B / C := CUT0.out _ (by have := HC7.out; rw [N7.out, N4.out] at this; rw [← HEC.out]; exact decide_eq_false (by omega))
              go_wp2_with fail
              refine (refNumber_any _ q _ _ LQ7.out).mono ?_
              rintro e w9 ⟨rfl, rfl⟩
              rw [QN.out]
              obtain ⟨z, k, hz⟩ := told_pair (A * B / C) true
              rw [hz]
              have HZ := Lib.hid hz
              clear hz
              go_wp2_with fail
              go_ret2
              refine ⟨?_, hb17⟩
              rw [HE.out, HCUT, HNEG.out, HZ.out]
              rfl
            · have hdt : decide (longN l7 < longN l4) = false := decide_eq_false hc7
              have HC7 := Lib.hid hc7
              clear hc7
              go_wp2_with fail
              refine (refLess_any _ _ l7 l4 _ L7.out L47.out).mono ?_
              rintro e w6 ⟨rfl, rfl⟩
              simp only [hdt]
              have HCUT : (cutQ a b c fun r => decide (c.natAbs ≤ 2 * r)) = A * B / C + 1 := CUT1.out _ (by have := HC7.out; rw [N7.out, N4.out] at this; rw [← HEC.out]; exact decide_eq_true (by omega))
              go_wp2_with fail
              refine (refPlusOne_any _ q _ LQ7.out (by omega)).mono ?_
              rintro e w8 ⟨v8, l8, rfl, hl8, hn8, hlen8, hb8⟩
              have hb18 := hb17.trans (hb8.mono hb17.size)
              have L8 := Lib.hid hl8
              have N8 := Lib.hid hn8
              clear hl8 hn8
              go_wp2_with fail
              refine (refNumber_any _ l8 _ _ L8.out).mono ?_
              rintro e w9 ⟨rfl, rfl⟩
              rw [N8.out, QN.out]
              obtain ⟨z, k, hz⟩ := told_pair (A * B / C + 1) true
              rw [hz]
              have HZ := Lib.hid hz
              clear hz
              go_wp2_with fail
              go_ret2
              refine ⟨?_, hb18⟩
              rw [HE.out, HCUT, HNEG.out, HZ.out]
              rfl
          · have hdt0 : decide (longN r = 0) = false := decide_eq_false hr0
            clear hr0
            go_wp2_with fail
            refine (refZero_any _ r _ LR.out).mono ?_
            rintro e w6 ⟨rfl, hb6⟩
            simp only [hdt0]
            have hb16 := hb15.trans (hb6.mono hb15.size)
            have LQ6 := Lib.hid (LQ.out.below hb6)
            have LR6 := Lib.hid (LR.out.below hb6)
            have L46 := Lib.hid (L4'.out.below hb6)
            go_wp2_with fail
            refine (refDouble_any _ r 0 _ LR6.out (by omega) (by omega)).mono ?_
            rintro e w7 ⟨v7, l7, rfl, hl7, hn7, hlen7, hb7⟩
            have hb17 := hb16.trans (hb7.mono hb16.size)
            have LQ7 := Lib.hid (LQ6.out.below hb7)
            have L7 := Lib.hid hl7
            have L47 := Lib.hid (L46.out.below hb7)
            have N7 : Hid (longN l7 = 2 * (A * B % C)) := by rw [hn7, RN.out]; exact rfl
            clear hl7 hn7
            by_cases hc7 : longN l7 < longN l4
            · have hdt : decide (longN l7 < longN l4) = true := decide_eq_true hc7
              have HC7 := Lib.hid hc7
              clear hc7
              go_wp2_with fail
              refine (refLess_any _ _ l7 l4 _ L7.out L47.out).mono ?_
              rintro e w6 ⟨rfl, rfl⟩
              simp only [hdt]
              have HCUT : (cutQ a b c fun r => decide (c.natAbs ≤ 2 * r)) = A * B / C := CUT0.out _ (by have := HC7.out; rw [N7.out, N4.out] at this; rw [← HEC.out]; exact decide_eq_false (by omega))
              go_wp2_with fail
              refine (refNumber_any _ q _ _ LQ7.out).mono ?_
              rintro e w9 ⟨rfl, rfl⟩
              rw [QN.out]
              obtain ⟨z, k, hz⟩ := told_pair (A * B / C) true
              rw [hz]
              have HZ := Lib.hid hz
              clear hz
              go_wp2_with fail
              go_ret2
              refine ⟨?_, hb17⟩
              rw [HE.out, HCUT, HNEG.out, HZ.out]
              rfl
            · have hdt : decide (longN l7 < longN l4) = false := decide_eq_false hc7
              have HC7 := Lib.hid hc7
              clear hc7
              go_wp2_with fail
              refine (refLess_any _ _ l7 l4 _ L7.out L47.out).mono ?_
              rintro e w6 ⟨rfl, rfl⟩
              simp only [hdt]
              have HCUT : (cutQ a b c fun r => decide (c.natAbs ≤ 2 * r)) = A * B / C + 1 := CUT1.out _ (by have := HC7.out; rw [N7.out, N4.out] at this; rw [← HEC.out]; exact decide_eq_true (by omega))
              go_wp2_with fail
              refine (refPlusOne_any _ q _ LQ7.out (by omega)).mono ?_
              rintro e w8 ⟨v8, l8, rfl, hl8, hn8, hlen8, hb8⟩
              have hb18 := hb17.trans (hb8.mono hb17.size)
              have L8 := Lib.hid hl8
              have N8 := Lib.hid hn8
              clear hl8 hn8
              go_wp2_with fail
              refine (refNumber_any _ l8 _ _ L8.out).mono ?_
              rintro e w9 ⟨rfl, rfl⟩
              rw [N8.out, QN.out]
              obtain ⟨z, k, hz⟩ := told_pair (A * B / C + 1) true
              rw [hz]
              have HZ := Lib.hid hz
              clear hz
              go_wp2_with fail
              go_ret2
              refine ⟨?_, hb18⟩
              rw [HE.out, HCUT, HNEG.out, HZ.out]
              rfl
      · by_cases h3 : c < 0
        · have hneg : neg3 a b c = true := by unfold neg3; simp [h1, h2, h3]
          have HNEG := Lib.hid hneg
          clear hneg hA hB hC
          go_enter Tryz.func62, Tryz.ntmps62
          go_wp2_with fail
          refine (HSA.out _).mono ?_
          rintro e w1 ⟨rfl, rfl⟩
          go_wp2_with fail
          refine (of_any A HA.out _).mono ?_
          rintro e w1 ⟨v1, l1, rfl, hl1, hn1, hlen1, hb1⟩
          have L1 := Lib.hid hl1
          have N1 := Lib.hid hn1
          clear hl1 hn1
          go_wp2_with fail
          refine (HSB.out _).mono ?_
          rintro e w2 ⟨rfl, rfl⟩
          go_wp2_with fail
          refine (of_any B HB.out _).mono ?_
          rintro e w2 ⟨v2, l2, rfl, hl2, hn2, hlen2, hb2⟩
          have hb12 := hb1.trans (hb2.mono hb1.size)
          have L2 := Lib.hid hl2
          have N2 := Lib.hid hn2
          have L1' := Lib.hid (L1.out.below hb2)
          clear hl2 hn2
          go_wp2_with fail
          refine (refTimes_any _ _ l1 l2 _ L1'.out L2.out (by omega)).mono ?_
          rintro e w3 ⟨v3, l3, rfl, hl3, hn3, hlen3, hb3⟩
          have hb13 := hb12.trans (hb3.mono hb12.size)
          have L3 := Lib.hid hl3
          have N3 := Lib.hid hn3
          clear hl3 hn3
          go_wp2_with fail
          refine (HSC.out _).mono ?_
          rintro e w4 ⟨rfl, rfl⟩
          go_wp2_with fail
          refine (of_any C HC.out _).mono ?_
          rintro e w4 ⟨v4, l4, rfl, hl4, hn4, hlen4, hb4⟩
          have hb14 := hb13.trans (hb4.mono hb13.size)
          have L4 := Lib.hid hl4
          have N4 := Lib.hid hn4
          have L3' := Lib.hid (L3.out.below hb4)
          clear hl4 hn4
          go_wp2_with fail
          refine (refDivide_any _ _ l3 l4 _ L3'.out L4.out (by rw [N4.out]; exact hC0) (by omega)).mono ?_
          rintro e w5 ⟨vq, vr, q, r, rfl, hq, hr, hqn, hrn, hql, hrl, hb5⟩
          have hb15 := hb14.trans (hb5.mono hb14.size)
          have QN : Hid (longN q = A * B / C) := by rw [hqn, N3.out, N1.out, N2.out, N4.out]; exact rfl
          have RN : Hid (longN r = A * B % C) := by rw [hrn, N3.out, N1.out, N2.out, N4.out]; exact rfl
          have LQ := Lib.hid hq
          have LR := Lib.hid hr
          have L4' := Lib.hid (L4.out.below hb5)
          clear hq hr hqn hrn
          by_cases hr0 : longN r = 0
          · have hdt0 : decide (longN r = 0) = true := decide_eq_true hr0
            clear hr0
            go_wp2_with fail
            refine (refZero_any _ r _ LR.out).mono ?_
            rintro e w6 ⟨rfl, hb6⟩
            simp only [hdt0]
            have hb16 := hb15.trans (hb6.mono hb15.size)
            have LQ6 := Lib.hid (LQ.out.below hb6)
            have LR6 := Lib.hid (LR.out.below hb6)
            have L46 := Lib.hid (L4'.out.below hb6)
            go_wp2_with fail
            refine (refDouble_any _ r 0 _ LR6.out (by omega) (by omega)).mono ?_
            rintro e w7 ⟨v7, l7, rfl, hl7, hn7, hlen7, hb7⟩
            have hb17 := hb16.trans (hb7.mono hb16.size)
            have LQ7 := Lib.hid (LQ6.out.below hb7)
            have L7 := Lib.hid hl7
            have L47 := Lib.hid (L46.out.below hb7)
            have N7 : Hid (longN l7 = 2 * (A * B % C)) := by rw [hn7, RN.out]; exact rfl
            clear hl7 hn7
            by_cases hc7 : longN l7 < longN l4
            · have hdt : decide (longN l7 < longN l4) = true := decide_eq_true hc7
              have HC7 := Lib.hid hc7
              clear hc7
              go_wp2_with fail
              refine (refLess_any _ _ l7 l4 _ L7.out L47.out).mono ?_
              rintro e w6 ⟨rfl, rfl⟩
              simp only [hdt]
              have HCUT : (cutQ a b c fun r => decide (c.natAbs ≤ 2 * r)) = A * B / C := CUT0.out _ (by have := HC7.out; rw [N7.out, N4.out] at this; rw [← HEC.out]; exact decide_eq_false (by omega))
              go_wp2_with fail
              refine (refNumber_any _ q _ _ LQ7.out).mono ?_
              rintro e w9 ⟨rfl, rfl⟩
              rw [QN.out]
              obtain ⟨z, k, hz⟩ := told_pair (A * B / C) true
              rw [hz]
              have HZ := Lib.hid hz
              clear hz
              go_wp2_with fail
              go_ret2
              refine ⟨?_, hb17⟩
              rw [HE.out, HCUT, HNEG.out, HZ.out]
              rfl
            · have hdt : decide (longN l7 < longN l4) = false := decide_eq_false hc7
              have HC7 := Lib.hid hc7
              clear hc7
              go_wp2_with fail
              refine (refLess_any _ _ l7 l4 _ L7.out L47.out).mono ?_
              rintro e w6 ⟨rfl, rfl⟩
              simp only [hdt]
              have HCUT : (cutQ a b c fun r => decide (c.natAbs ≤ 2 * r)) = A * B / C + 1 := CUT1.out _ (by have := HC7.out; rw [N7.out, N4.out] at this; rw [← HEC.out]; exact decide_eq_true (by omega))
              go_wp2_with fail
              refine (refPlusOne_any _ q _ LQ7.out (by omega)).mono ?_
              rintro e w8 ⟨v8, l8, rfl, hl8, hn8, hlen8, hb8⟩
              have hb18 := hb17.trans (hb8.mono hb17.size)
              have L8 := Lib.hid hl8
              have N8 := Lib.hid hn8
              clear hl8 hn8
              go_wp2_with fail
              refine (refNumber_any _ l8 _ _ L8.out).mono ?_
              rintro e w9 ⟨rfl, rfl⟩
              rw [N8.out, QN.out]
              obtain ⟨z, k, hz⟩ := told_pair (A * B / C + 1) true
              rw [hz]
              have HZ := Lib.hid hz
              clear hz
              go_wp2_with fail
              go_ret2
              refine ⟨?_, hb18⟩
              rw [HE.out, HCUT, HNEG.out, HZ.out]
              rfl
          · have hdt0 : decide (longN r = 0) = false := decide_eq_false hr0
            clear hr0
            go_wp2_with fail
            refine (refZero_any _ r _ LR.out).mono ?_
            rintro e w6 ⟨rfl, hb6⟩
            simp only [hdt0]
            have hb16 := hb15.trans (hb6.mono hb15.size)
            have LQ6 := Lib.hid (LQ.out.below hb6)
            have LR6 := Lib.hid (LR.out.below hb6)
            have L46 := Lib.hid (L4'.out.below hb6)
            go_wp2_with fail
            refine (refDouble_any _ r 0 _ LR6.out (by omega) (by omega)).mono ?_
            rintro e w7 ⟨v7, l7, rfl, hl7, hn7, hlen7, hb7⟩
            have hb17 := hb16.trans (hb7.mono hb16.size)
            have LQ7 := Lib.hid (LQ6.out.below hb7)
            have L7 := Lib.hid hl7
            have L47 := Lib.hid (L46.out.below hb7)
            have N7 : Hid (longN l7 = 2 * (A * B % C)) := by rw [hn7, RN.out]; exact rfl
            clear hl7 hn7
            by_cases hc7 : longN l7 < longN l4
            · have hdt : decide (longN l7 < longN l4) = true := decide_eq_true hc7
              have HC7 := Lib.hid hc7
              clear hc7
              go_wp2_with fail
              refine (refLess_any _ _ l7 l4 _ L7.out L47.out).mono ?_
              rintro e w6 ⟨rfl, rfl⟩
              simp only [hdt]
              have HCUT : (cutQ a b c fun r => decide (c.natAbs ≤ 2 * r)) = A * B / C := CUT0.out _ (by have := HC7.out; rw [N7.out, N4.out] at this; rw [← HEC.out]; exact decide_eq_false (by omega))
              go_wp2_with fail
              refine (refNumber_any _ q _ _ LQ7.out).mono ?_
              rintro e w9 ⟨rfl, rfl⟩
              rw [QN.out]
              obtain ⟨z, k, hz⟩ := told_pair (A * B / C) true
              rw [hz]
              have HZ := Lib.hid hz
              clear hz
              go_wp2_with fail
              go_ret2
              refine ⟨?_, hb17⟩
              rw [HE.out, HCUT, HNEG.out, HZ.out]
              rfl
            · have hdt : decide (longN l7 < longN l4) = false := decide_eq_false hc7
              have HC7 := Lib.hid hc7
              clear hc7
              go_wp2_with fail
              refine (refLess_any _ _ l7 l4 _ L7.out L47.out).mono ?_
              rintro e w6 ⟨rfl, rfl⟩
              simp only [hdt]
              have HCUT : (cutQ a b c fun r => decide (c.natAbs ≤ 2 * r)) = A * B / C + 1 := CUT1.out _ (by have := HC7.out; rw [N7.out, N4.out] at this; rw [← HEC.out]; exact decide_eq_true (by omega))
              go_wp2_with fail
              refine (refPlusOne_any _ q _ LQ7.out (by omega)).mono ?_
              rintro e w8 ⟨v8, l8, rfl, hl8, hn8, hlen8, hb8⟩
              have hb18 := hb17.trans (hb8.mono hb17.size)
              have L8 := Lib.hid hl8
              have N8 := Lib.hid hn8
              clear hl8 hn8
              go_wp2_with fail
              refine (refNumber_any _ l8 _ _ L8.out).mono ?_
              rintro e w9 ⟨rfl, rfl⟩
              rw [N8.out, QN.out]
              obtain ⟨z, k, hz⟩ := told_pair (A * B / C + 1) true
              rw [hz]
              have HZ := Lib.hid hz
              clear hz
              go_wp2_with fail
              go_ret2
              refine ⟨?_, hb18⟩
              rw [HE.out, HCUT, HNEG.out, HZ.out]
              rfl
        · have hneg : neg3 a b c = false := by unfold neg3; simp [h1, h2, h3]
          have HNEG := Lib.hid hneg
          clear hneg hA hB hC
          go_enter Tryz.func62, Tryz.ntmps62
          go_wp2_with fail
          refine (HSA.out _).mono ?_
          rintro e w1 ⟨rfl, rfl⟩
          go_wp2_with fail
          refine (of_any A HA.out _).mono ?_
          rintro e w1 ⟨v1, l1, rfl, hl1, hn1, hlen1, hb1⟩
          have L1 := Lib.hid hl1
          have N1 := Lib.hid hn1
          clear hl1 hn1
          go_wp2_with fail
          refine (HSB.out _).mono ?_
          rintro e w2 ⟨rfl, rfl⟩
          go_wp2_with fail
          refine (of_any B HB.out _).mono ?_
          rintro e w2 ⟨v2, l2, rfl, hl2, hn2, hlen2, hb2⟩
          have hb12 := hb1.trans (hb2.mono hb1.size)
          have L2 := Lib.hid hl2
          have N2 := Lib.hid hn2
          have L1' := Lib.hid (L1.out.below hb2)
          clear hl2 hn2
          go_wp2_with fail
          refine (refTimes_any _ _ l1 l2 _ L1'.out L2.out (by omega)).mono ?_
          rintro e w3 ⟨v3, l3, rfl, hl3, hn3, hlen3, hb3⟩
          have hb13 := hb12.trans (hb3.mono hb12.size)
          have L3 := Lib.hid hl3
          have N3 := Lib.hid hn3
          clear hl3 hn3
          go_wp2_with fail
          refine (HSC.out _).mono ?_
          rintro e w4 ⟨rfl, rfl⟩
          go_wp2_with fail
          refine (of_any C HC.out _).mono ?_
          rintro e w4 ⟨v4, l4, rfl, hl4, hn4, hlen4, hb4⟩
          have hb14 := hb13.trans (hb4.mono hb13.size)
          have L4 := Lib.hid hl4
          have N4 := Lib.hid hn4
          have L3' := Lib.hid (L3.out.below hb4)
          clear hl4 hn4
          go_wp2_with fail
          refine (refDivide_any _ _ l3 l4 _ L3'.out L4.out (by rw [N4.out]; exact hC0) (by omega)).mono ?_
          rintro e w5 ⟨vq, vr, q, r, rfl, hq, hr, hqn, hrn, hql, hrl, hb5⟩
          have hb15 := hb14.trans (hb5.mono hb14.size)
          have QN : Hid (longN q = A * B / C) := by rw [hqn, N3.out, N1.out, N2.out, N4.out]; exact rfl
          have RN : Hid (longN r = A * B % C) := by rw [hrn, N3.out, N1.out, N2.out, N4.out]; exact rfl
          have LQ := Lib.hid hq
          have LR := Lib.hid hr
          have L4' := Lib.hid (L4.out.below hb5)
          clear hq hr hqn hrn
          go_wp2_with fail
          refine (refDouble_any _ r 0 _ LR.out (by omega) (by omega)).mono ?_
          rintro e w7 ⟨v7, l7, rfl, hl7, hn7, hlen7, hb7⟩
          have hb17 := hb15.trans (hb7.mono hb15.size)
          have LQ7 := Lib.hid (LQ.out.below hb7)
          have L7 := Lib.hid hl7
          have L47 := Lib.hid (L4'.out.below hb7)
          have N7 : Hid (longN l7 = 2 * (A * B % C)) := by rw [hn7, RN.out]; exact rfl
          clear hl7 hn7
          by_cases hc7 : longN l7 < longN l4
          · have hdt : decide (longN l7 < longN l4) = true := decide_eq_true hc7
            have HC7 := Lib.hid hc7
            clear hc7
            go_wp2_with fail
            refine (refLess_any _ _ l7 l4 _ L7.out L47.out).mono ?_
            rintro e w6 ⟨rfl, rfl⟩
            simp only [hdt]
            have HCUT : (cutQ a b c fun r => decide (c.natAbs ≤ 2 * r)) = A * B / C := CUT0.out _ (by have := HC7.out; rw [N7.out, N4.out] at this; rw [← HEC.out]; exact decide_eq_false (by omega))
            go_wp2_with fail
            refine (refNumber_any _ q _ _ LQ7.out).mono ?_
            rintro e w9 ⟨rfl, rfl⟩
            rw [QN.out]
            obtain ⟨z, k, hz⟩ := told_pair (A * B / C) false
            rw [hz]
            have HZ := Lib.hid hz
            clear hz
            go_wp2_with fail
            go_ret2
            refine ⟨?_, hb17⟩
            rw [HE.out, HCUT, HNEG.out, HZ.out]
            rfl
          · have hdt : decide (longN l7 < longN l4) = false := decide_eq_false hc7
            have HC7 := Lib.hid hc7
            clear hc7
            go_wp2_with fail
            refine (refLess_any _ _ l7 l4 _ L7.out L47.out).mono ?_
            rintro e w6 ⟨rfl, rfl⟩
            simp only [hdt]
            have HCUT : (cutQ a b c fun r => decide (c.natAbs ≤ 2 * r)) = A * B / C + 1 := CUT1.out _ (by have := HC7.out; rw [N7.out, N4.out] at this; rw [← HEC.out]; exact decide_eq_true (by omega))
            go_wp2_with fail
            refine (refPlusOne_any _ q _ LQ7.out (by omega)).mono ?_
            rintro e w8 ⟨v8, l8, rfl, hl8, hn8, hlen8, hb8⟩
            have hb18 := hb17.trans (hb8.mono hb17.size)
            have L8 := Lib.hid hl8
            have N8 := Lib.hid hn8
            clear hl8 hn8
            go_wp2_with fail
            refine (refNumber_any _ l8 _ _ L8.out).mono ?_
            rintro e w9 ⟨rfl, rfl⟩
            rw [N8.out, QN.out]
            obtain ⟨z, k, hz⟩ := told_pair (A * B / C + 1) false
            rw [hz]
            have HZ := Lib.hid hz
            clear hz
            go_wp2_with fail
            go_ret2
            refine ⟨?_, hb18⟩
            rw [HE.out, HCUT, HNEG.out, HZ.out]
            rfl
end Go.Proofs.YtpodgmibghcjdaaGreatDoor
