/-
  The document's table head.
-/
import Derived.Test.YtlpnikolnohcaaaNumR
namespace Go.Proofs.Ytlpnikolnohcaaa
open Go Go.RowKit

/-- is it no table head? -/
def badHead (l : List Int) : Bool := decide (l.length ≠ 54) || (decide (numAt l 0 4 ≠ 65536) || (decide (numAt l 12 4 ≠ 1594834165) || (decide (numAt l 18 2 < 16) || (decide (16384 < numAt l 18 2) || decide (1 < numAt l 50 2)))))

/-- the units of the em, the error's number -/
def headS (l : List Int) : Int × Int := if badHead l then (0, 50) else (numAt l 18 2, 0)

set_option maxHeartbeats 4000000 in
set_option maxRecDepth 20000 in
theorem refHead_any (w : World) (v : Value) (l : List Int) (hv : NumZ .u8 w v l) (hA : AllB l) (hl : l.length ≤ 1000000) :
    Calls Try.prog 17 #[v] w fun e w' => e = .returned (.tuple #[.int .u16 (headS l).1, .int .i64 (headS l).2]) ∧ Below w.heap.size w w' := by
  have HL : Hid (∀ wx, Below w.heap.size w wx → ∀ p, Calls Try.prog 27 #[v, .int .i64 p] wx fun e w' => e = .returned (.int .i64 (numAt l p 4)) ∧ Below wx.heap.size wx w') := Lib.hid (fun wx hb p => l_any wx v l (hv.below hb) hA hl p)
  have HW : Hid (∀ wx, Below w.heap.size w wx → ∀ p, Calls Try.prog 25 #[v, .int .i64 p] wx fun e w' => e = .returned (.int .i64 (numAt l p 2)) ∧ Below wx.heap.size wx w') := Lib.hid (fun wx hb p => w_any wx v l (hv.below hb) hA hl p)
  obtain ⟨A, c, rfl, _, _, _⟩ := hv
  rename_i g1 g2 g3
  obtain ⟨q, hq⟩ : ∃ q, q = headS l := ⟨_, rfl⟩
  rw [← hq]
  obtain ⟨a, ha⟩ : ∃ a, a = numAt l 0 4 := ⟨_, rfl⟩
  obtain ⟨b, hb⟩ : ∃ b, b = numAt l 12 4 := ⟨_, rfl⟩
  obtain ⟨u, hu⟩ : ∃ u, u = numAt l 18 2 := ⟨_, rfl⟩
  obtain ⟨d, hd⟩ : ∃ d, d = numAt l 50 2 := ⟨_, rfl⟩
  have hub := numAt_b hA 18 2
  rw [← hu] at hub
  have hwu : IntKind.u16.wrap u = u := by rw [wrap_u16]; omega
  unfold headS badHead at hq
  rw [← ha, ← hb, ← hu, ← hd] at hq
  have HA := Lib.hid ha
  have HB := Lib.hid hb
  have HU := Lib.hid hu
  have HD := Lib.hid hd
  have HB0 := Lib.hid (Below.refl w.heap.size w)
  obtain ⟨N, hN⟩ : ∃ N, N = l.length := ⟨_, rfl⟩
  rw [← hN] at HL HW hq ⊢
  clear g1 g2 g3 ha hb hu hd hub hA hl hN
  by_cases h0 : N ≠ 54
  · have b0 : ((N : Int) != 54) = true := by simp; omega
    have HQ : Hid (q = (0, 50)) := Lib.hid (by rw [hq]; simp [h0])
    clear hq h0
    go_enter Try.func17, Try.ntmps17
    go_wp2_with fail
    go_ret2
    exact ⟨by rw [HQ.out]; rfl, HB0.out⟩
  · have b0 : ((N : Int) != 54) = false := by simp; omega
    by_cases h1 : a ≠ 65536
    · have b1 : (a != 65536) = true := by simp; omega
      have HQ : Hid (q = (0, 50)) := Lib.hid (by rw [hq]; simp [h0, h1])
      clear hq h0 h1
      go_enter Try.func17, Try.ntmps17
      go_wp2_with fail
      refine (HL.out _ HB0.out _).mono ?_
      rintro e w1 ⟨rfl, hb⟩
      rw [← HA.out]
      have HX1 := Lib.hid (HB0.out.trans (hb.mono HB0.out.size))
      clear hb
      go_wp2_with fail
      go_ret2
      exact ⟨by rw [HQ.out]; rfl, HX1.out⟩
    · have b1 : (a != 65536) = false := by simp; omega
      by_cases h2 : b ≠ 1594834165
      · have b2 : (b != 1594834165) = true := by simp; omega
        have HQ : Hid (q = (0, 50)) := Lib.hid (by rw [hq]; simp [h0, h1, h2])
        clear hq h0 h1 h2
        go_enter Try.func17, Try.ntmps17
        go_wp2_with fail
        refine (HL.out _ HB0.out _).mono ?_
        rintro e w1 ⟨rfl, hb⟩
        rw [← HA.out]
        have HX1 := Lib.hid (HB0.out.trans (hb.mono HB0.out.size))
        clear hb
        go_wp2_with fail
        refine (HL.out _ HX1.out _).mono ?_
        rintro e w2 ⟨rfl, hb⟩
        rw [← HB.out]
        have HX2 := Lib.hid (HX1.out.trans (hb.mono HX1.out.size))
        clear hb
        go_wp2_with fail
        go_ret2
        exact ⟨by rw [HQ.out]; rfl, HX2.out⟩
      · have b2 : (b != 1594834165) = false := by simp; omega
        by_cases h3 : u < 16
        · have b3 : (u < 16) = True := eq_true h3
          have HQ : Hid (q = (0, 50)) := Lib.hid (by rw [hq]; simp [h0, h1, h2, h3])
          clear hq h0 h1 h2 h3
          go_enter Try.func17, Try.ntmps17
          go_wp2_with fail
          refine (HL.out _ HB0.out _).mono ?_
          rintro e w1 ⟨rfl, hb⟩
          rw [← HA.out]
          have HX1 := Lib.hid (HB0.out.trans (hb.mono HB0.out.size))
          clear hb
          go_wp2_with fail
          refine (HL.out _ HX1.out _).mono ?_
          rintro e w2 ⟨rfl, hb⟩
          rw [← HB.out]
          have HX2 := Lib.hid (HX1.out.trans (hb.mono HX1.out.size))
          clear hb
          go_wp2_with fail
          refine (HW.out _ HX2.out _).mono ?_
          rintro e w3 ⟨rfl, hb⟩
          rw [← HU.out]
          have HX3 := Lib.hid (HX2.out.trans (hb.mono HX2.out.size))
          clear hb
          go_wp2_with fail
          go_ret2
          exact ⟨by rw [HQ.out]; rfl, HX3.out⟩
        · have b3 : (u < 16) = False := eq_false h3
          by_cases h4 : 16384 < u
          · have b4 : (16384 < u) = True := eq_true h4
            have HQ : Hid (q = (0, 50)) := Lib.hid (by rw [hq]; simp [h0, h1, h2, h3, h4])
            clear hq h0 h1 h2 h3 h4
            go_enter Try.func17, Try.ntmps17
            go_wp2_with fail
            refine (HL.out _ HB0.out _).mono ?_
            rintro e w1 ⟨rfl, hb⟩
            rw [← HA.out]
            have HX1 := Lib.hid (HB0.out.trans (hb.mono HB0.out.size))
            clear hb
            go_wp2_with fail
            refine (HL.out _ HX1.out _).mono ?_
            rintro e w2 ⟨rfl, hb⟩
            rw [← HB.out]
            have HX2 := Lib.hid (HX1.out.trans (hb.mono HX1.out.size))
            clear hb
            go_wp2_with fail
            refine (HW.out _ HX2.out _).mono ?_
            rintro e w3 ⟨rfl, hb⟩
            rw [← HU.out]
            have HX3 := Lib.hid (HX2.out.trans (hb.mono HX2.out.size))
            clear hb
            go_wp2_with fail
            refine (HW.out _ HX3.out _).mono ?_
            rintro e w4 ⟨rfl, hb⟩
            rw [← HU.out]
            have HX4 := Lib.hid (HX3.out.trans (hb.mono HX3.out.size))
            clear hb
            go_wp2_with fail
            go_ret2
            exact ⟨by rw [HQ.out]; rfl, HX4.out⟩
          · have b4 : (16384 < u) = False := eq_false h4
            by_cases h5 : 1 < d
            · have b5 : (1 < d) = True := eq_true h5
              have HQ : Hid (q = (0, 50)) := Lib.hid (by rw [hq]; simp [h0, h1, h2, h3, h4, h5])
              clear hq h0 h1 h2 h3 h4 h5
              go_enter Try.func17, Try.ntmps17
              go_wp2_with fail
              refine (HL.out _ HB0.out _).mono ?_
              rintro e w1 ⟨rfl, hb⟩
              rw [← HA.out]
              have HX1 := Lib.hid (HB0.out.trans (hb.mono HB0.out.size))
              clear hb
              go_wp2_with fail
              refine (HL.out _ HX1.out _).mono ?_
              rintro e w2 ⟨rfl, hb⟩
              rw [← HB.out]
              have HX2 := Lib.hid (HX1.out.trans (hb.mono HX1.out.size))
              clear hb
              go_wp2_with fail
              refine (HW.out _ HX2.out _).mono ?_
              rintro e w3 ⟨rfl, hb⟩
              rw [← HU.out]
              have HX3 := Lib.hid (HX2.out.trans (hb.mono HX2.out.size))
              clear hb
              go_wp2_with fail
              refine (HW.out _ HX3.out _).mono ?_
              rintro e w4 ⟨rfl, hb⟩
              rw [← HU.out]
              have HX4 := Lib.hid (HX3.out.trans (hb.mono HX3.out.size))
              clear hb
              go_wp2_with fail
              refine (HW.out _ HX4.out _).mono ?_
              rintro e w5 ⟨rfl, hb⟩
              rw [← HD.out]
              have HX5 := Lib.hid (HX4.out.trans (hb.mono HX4.out.size))
              clear hb
              go_wp2_with fail
              go_ret2
              exact ⟨by rw [HQ.out]; rfl, HX5.out⟩
            · have b5 : (1 < d) = False := eq_false h5
              have HQ : Hid (q = (u, 0)) := Lib.hid (by rw [hq]; simp [h0, h1, h2, h3, h4, h5])
              clear hq h0 h1 h2 h3 h4 h5
              go_enter Try.func17, Try.ntmps17
              go_wp2_with fail
              refine (HL.out _ HB0.out _).mono ?_
              rintro e w1 ⟨rfl, hb⟩
              rw [← HA.out]
              have HX1 := Lib.hid (HB0.out.trans (hb.mono HB0.out.size))
              clear hb
              go_wp2_with fail
              refine (HL.out _ HX1.out _).mono ?_
              rintro e w2 ⟨rfl, hb⟩
              rw [← HB.out]
              have HX2 := Lib.hid (HX1.out.trans (hb.mono HX1.out.size))
              clear hb
              go_wp2_with fail
              refine (HW.out _ HX2.out _).mono ?_
              rintro e w3 ⟨rfl, hb⟩
              rw [← HU.out]
              have HX3 := Lib.hid (HX2.out.trans (hb.mono HX2.out.size))
              clear hb
              go_wp2_with fail
              refine (HW.out _ HX3.out _).mono ?_
              rintro e w4 ⟨rfl, hb⟩
              rw [← HU.out]
              have HX4 := Lib.hid (HX3.out.trans (hb.mono HX3.out.size))
              clear hb
              go_wp2_with fail
              refine (HW.out _ HX4.out _).mono ?_
              rintro e w5 ⟨rfl, hb⟩
              rw [← HD.out]
              have HX5 := Lib.hid (HX4.out.trans (hb.mono HX4.out.size))
              clear hb
              go_wp2_with fail
              refine (HW.out _ HX5.out _).mono ?_
              rintro e w9 ⟨rfl, hb⟩
              rw [← HU.out]
              have HX9 := Lib.hid (HX5.out.trans (hb.mono HX5.out.size))
              clear hb
              go_wp2_with fail
              go_ret2
              exact ⟨by rw [HQ.out]; rfl, HX9.out⟩
end Go.Proofs.Ytlpnikolnohcaaa
