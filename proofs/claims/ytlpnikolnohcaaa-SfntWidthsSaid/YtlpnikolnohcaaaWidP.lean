/-
  sfnt.Widths: maxp, hhea.
-/
import Derived.Test.YtlpnikolnohcaaaHeadP
import Derived.Test.YtlpnikolnohcaaaWidR
namespace Go.Proofs.Ytlpnikolnohcaaa
open Go Go.RowKit

/-- is it no maxp? -/
def badMaxp (a : List Int) : Bool := (!shortS a && !longS a) || decide (numAt a 4 2 < 1)
/-- is it no hhea of so many glyphs? -/
def badHhea (b : List Int) (y : Int) : Bool := decide (b.length ≠ 36) || (decide (numAt b 0 4 ≠ 65536) || (decide (numAt b 34 2 < 1) || decide (y < numAt b 34 2)))

set_option maxHeartbeats 4000000 in
set_option maxRecDepth 20000 in
theorem glyphsOf_any (w : World) (r : Value) (l : List Int) (hr : RdZ w r l) (hA : AllB l) (hl : l.length ≤ 1000000) :
    Calls Try.prog 41 #[r] w fun e w' => Below w.heap.size w w' ∧ ((badMaxp l = false ∧ e = .returned (.int .i64 (numAt l 4 2))) ∨ (badMaxp l = true ∧ e = gone 50)) := by
  have HS := Lib.hid (sound_ok w r l hr)
  have HLN := Lib.hid (rd_len w r l hr)
  have HOK := Lib.hid (fun wx => reqFont_ok wx)
  have HNO := Lib.hid (fun wx => reqFont_bad wx)
  obtain ⟨bd, hbd⟩ : ∃ bd, bd = badMaxp l := ⟨_, rfl⟩
  rw [← hbd]
  unfold badMaxp shortS longS at hbd
  have hyb := numAt_b hA 4 2
  have HX0 := Lib.hid (Below.refl w.heap.size w)
  by_cases h6 : l.length = 6 ∨ l.length = 32
  · have HLa : Hid (∀ wx, Below w.heap.size w wx → Calls Try.prog 52 #[r, .int .i64 0] wx fun e w' => e = .returned (.int .u32 (numAt l 0 4)) ∧ Below wx.heap.size wx w') := Lib.hid (fun wx hb => rdL wx r l (hr.below hb) hA (by omega) 0 (by omega))
    have HWy : Hid (∀ wx, Below w.heap.size w wx → Calls Try.prog 47 #[r, .int .i64 4] wx fun e w' => e = .returned (.int .u16 (numAt l 4 2)) ∧ Below wx.heap.size wx w') := Lib.hid (fun wx hb => rdW wx r l (hr.below hb) hA (by omega) 4 (by omega))
    have HZ0 : Hid (l.length = 32 → Calls Try.prog 66 #[r, .int .i64 32] w fun e w' => e = .returned (.tuple #[]) ∧ w = w') := Lib.hid (fun h => size_ok w r l hr 32 (by omega))
    generalize numAt l 0 4 = a at HLa hbd
    generalize numAt l 4 2 = y at HWy hbd hyb ⊢
    have qy : IntKind.i64.wrap y = y := by rw [IntKind.wrap_i64]; omega
    rcases h6 with h6 | h6
    · rw [h6] at HLN hbd
      have HLN2 : Hid (Calls Try.prog 68 #[r] w fun e w' => e = .returned (.int .i64 6) ∧ w = w') := HLN
      clear hr hA hl HLN HZ0 h6
      by_cases h1 : a = 20480
      · have b1 : (a == 20480) = true := by simp [h1]
        by_cases h2 : 1 ≤ y
        · have b2 : ((1 : Int) ≤ y) = True := eq_true h2
          have HV : Hid (bd = false) := Lib.hid (by rw [hbd]; simp [h1]; omega)
          clear hbd h1 h2 hyb
          go_enter Try.func41, Try.ntmps41
          go_wp2_with fail
          refine (HS.out).mono ?_
          rintro e wz ⟨rfl, rfl⟩
          go_wp2_with fail
          refine (HLN2.out).mono ?_
          rintro e wz ⟨rfl, rfl⟩
          go_wp2_with fail
          refine (HLa.out _ HX0.out).mono ?_
          rintro e w1 ⟨rfl, hb⟩
          have HX1 := Lib.hid (HX0.out.trans (hb.mono HX0.out.size))
          clear hb
          go_wp2_with fail
          refine (HOK.out _).mono ?_
          rintro e wz ⟨rfl, rfl⟩
          go_wp2_with fail
          refine (HWy.out _ HX1.out).mono ?_
          rintro e w2 ⟨rfl, hb⟩
          have HX2 := Lib.hid (HX1.out.trans (hb.mono HX1.out.size))
          clear hb
          go_wp2_with fail
          refine (HOK.out _).mono ?_
          rintro e wz ⟨rfl, rfl⟩
          go_wp2_with fail
          go_ret
          exact ⟨HX2.out, .inl ⟨HV.out, rfl⟩⟩
        · have b2 : ((1 : Int) ≤ y) = False := eq_false h2
          have HV : Hid (bd = true) := Lib.hid (by rw [hbd]; simp; omega)
          clear hbd h1 h2 hyb
          go_enter Try.func41, Try.ntmps41
          go_wp2_with fail
          refine (HS.out).mono ?_
          rintro e wz ⟨rfl, rfl⟩
          go_wp2_with fail
          refine (HLN2.out).mono ?_
          rintro e wz ⟨rfl, rfl⟩
          go_wp2_with fail
          refine (HLa.out _ HX0.out).mono ?_
          rintro e w1 ⟨rfl, hb⟩
          have HX1 := Lib.hid (HX0.out.trans (hb.mono HX0.out.size))
          clear hb
          go_wp2_with fail
          refine (HOK.out _).mono ?_
          rintro e wz ⟨rfl, rfl⟩
          go_wp2_with fail
          refine (HWy.out _ HX1.out).mono ?_
          rintro e w2 ⟨rfl, hb⟩
          have HX2 := Lib.hid (HX1.out.trans (hb.mono HX1.out.size))
          clear hb
          go_wp2_with fail
          refine (HNO.out _).mono ?_
          rintro e wz ⟨rfl, rfl⟩
          exact ⟨rfl, HX2.out, .inr ⟨HV.out, rfl⟩⟩
      · have b1 : (a == 20480) = false := by simp [h1]
        have HV : Hid (bd = true) := Lib.hid (by rw [hbd]; simp [h1])
        clear hbd h1 hyb
        go_enter Try.func41, Try.ntmps41
        go_wp2_with fail
        refine (HS.out).mono ?_
        rintro e wz ⟨rfl, rfl⟩
        go_wp2_with fail
        refine (HLN2.out).mono ?_
        rintro e wz ⟨rfl, rfl⟩
        go_wp2_with fail
        refine (HLa.out _ HX0.out).mono ?_
        rintro e w1 ⟨rfl, hb⟩
        have HX1 := Lib.hid (HX0.out.trans (hb.mono HX0.out.size))
        clear hb
        go_wp2_with fail
        refine (HNO.out _).mono ?_
        rintro e wz ⟨rfl, rfl⟩
        exact ⟨rfl, HX1.out, .inr ⟨HV.out, rfl⟩⟩
    · rw [h6] at HLN hbd
      have HLN2 : Hid (Calls Try.prog 68 #[r] w fun e w' => e = .returned (.int .i64 32) ∧ w = w') := HLN
      have HZ := Lib.hid (HZ0.out h6)
      clear hr hA hl HLN HZ0 h6
      by_cases h1 : a = 65536
      · have b1 : (a == 65536) = true := by simp [h1]
        by_cases h2 : 1 ≤ y
        · have b2 : ((1 : Int) ≤ y) = True := eq_true h2
          have HV : Hid (bd = false) := Lib.hid (by rw [hbd]; simp [h1]; omega)
          clear hbd h1 h2 hyb
          go_enter Try.func41, Try.ntmps41
          go_wp2_with fail
          refine (HS.out).mono ?_
          rintro e wz ⟨rfl, rfl⟩
          go_wp2_with fail
          refine (HLN2.out).mono ?_
          rintro e wz ⟨rfl, rfl⟩
          go_wp2_with fail
          refine (HZ.out).mono ?_
          rintro e wz ⟨rfl, rfl⟩
          go_wp2_with fail
          refine (HLa.out _ HX0.out).mono ?_
          rintro e w1 ⟨rfl, hb⟩
          have HX1 := Lib.hid (HX0.out.trans (hb.mono HX0.out.size))
          clear hb
          go_wp2_with fail
          refine (HOK.out _).mono ?_
          rintro e wz ⟨rfl, rfl⟩
          go_wp2_with fail
          refine (HWy.out _ HX1.out).mono ?_
          rintro e w2 ⟨rfl, hb⟩
          have HX2 := Lib.hid (HX1.out.trans (hb.mono HX1.out.size))
          clear hb
          go_wp2_with fail
          refine (HOK.out _).mono ?_
          rintro e wz ⟨rfl, rfl⟩
          go_wp2_with fail
          go_ret
          exact ⟨HX2.out, .inl ⟨HV.out, rfl⟩⟩
        · have b2 : ((1 : Int) ≤ y) = False := eq_false h2
          have HV : Hid (bd = true) := Lib.hid (by rw [hbd]; simp; omega)
          clear hbd h1 h2 hyb
          go_enter Try.func41, Try.ntmps41
          go_wp2_with fail
          refine (HS.out).mono ?_
          rintro e wz ⟨rfl, rfl⟩
          go_wp2_with fail
          refine (HLN2.out).mono ?_
          rintro e wz ⟨rfl, rfl⟩
          go_wp2_with fail
          refine (HZ.out).mono ?_
          rintro e wz ⟨rfl, rfl⟩
          go_wp2_with fail
          refine (HLa.out _ HX0.out).mono ?_
          rintro e w1 ⟨rfl, hb⟩
          have HX1 := Lib.hid (HX0.out.trans (hb.mono HX0.out.size))
          clear hb
          go_wp2_with fail
          refine (HOK.out _).mono ?_
          rintro e wz ⟨rfl, rfl⟩
          go_wp2_with fail
          refine (HWy.out _ HX1.out).mono ?_
          rintro e w2 ⟨rfl, hb⟩
          have HX2 := Lib.hid (HX1.out.trans (hb.mono HX1.out.size))
          clear hb
          go_wp2_with fail
          refine (HNO.out _).mono ?_
          rintro e wz ⟨rfl, rfl⟩
          exact ⟨rfl, HX2.out, .inr ⟨HV.out, rfl⟩⟩
      · have b1 : (a == 65536) = false := by simp [h1]
        have HV : Hid (bd = true) := Lib.hid (by rw [hbd]; simp [h1])
        clear hbd h1 hyb
        go_enter Try.func41, Try.ntmps41
        go_wp2_with fail
        refine (HS.out).mono ?_
        rintro e wz ⟨rfl, rfl⟩
        go_wp2_with fail
        refine (HLN2.out).mono ?_
        rintro e wz ⟨rfl, rfl⟩
        go_wp2_with fail
        refine (HZ.out).mono ?_
        rintro e wz ⟨rfl, rfl⟩
        go_wp2_with fail
        refine (HLa.out _ HX0.out).mono ?_
        rintro e w1 ⟨rfl, hb⟩
        have HX1 := Lib.hid (HX0.out.trans (hb.mono HX0.out.size))
        clear hb
        go_wp2_with fail
        refine (HNO.out _).mono ?_
        rintro e wz ⟨rfl, rfl⟩
        exact ⟨rfl, HX1.out, .inr ⟨HV.out, rfl⟩⟩
  · have HZ := Lib.hid (size_bad w r l hr 32 (by omega))
    have HV : Hid (bd = true) := Lib.hid (by rw [hbd]; simp; omega)
    obtain ⟨n, hn⟩ : ∃ n, n = l.length := ⟨_, rfl⟩
    rw [← hn] at HLN h6
    have b6 : ((n : Int) != 6) = true := by simp; omega
    clear hr hA hl hyb hbd h6 hn
    go_enter Try.func41, Try.ntmps41
    go_wp2_with fail
    refine (HS.out).mono ?_
    rintro e wz ⟨rfl, rfl⟩
    go_wp2_with fail
    refine (HLN.out).mono ?_
    rintro e wz ⟨rfl, rfl⟩
    go_wp2_with fail
    refine (HZ.out).mono ?_
    rintro e wz ⟨rfl, rfl⟩
    exact ⟨rfl, HX0.out, .inr ⟨HV.out, rfl⟩⟩

set_option maxRecDepth 20000 in
theorem glyphsOf_nil (w : World) : Calls Try.prog 41 #[.pointer none] w fun e w' => Below w.heap.size w w' ∧ e = gone 50 := by
  have HS := Lib.hid (sound_nil w)
  go_enter Try.func41, Try.ntmps41
  go_wp2_with fail
  refine (HS.out).mono ?_
  rintro e wz ⟨rfl, rfl⟩
  exact ⟨rfl, Below.refl _ _, rfl⟩

set_option maxRecDepth 20000 in
theorem measuredOf_nil (w : World) (y : Int) : Calls Try.prog 42 #[.pointer none, .int .i64 y] w fun e w' => Below w.heap.size w w' ∧ e = gone 50 := by
  have HS := Lib.hid (size_nil w 36)
  go_enter Try.func42, Try.ntmps42
  go_wp2_with fail
  refine (HS.out).mono ?_
  rintro e wz ⟨rfl, rfl⟩
  exact ⟨rfl, Below.refl _ _, rfl⟩

set_option maxHeartbeats 4000000 in
set_option maxRecDepth 20000 in
theorem measuredOf_any (w : World) (r : Value) (l : List Int) (y : Int) (hr : RdZ w r l) (hA : AllB l) :
    Calls Try.prog 42 #[r, .int .i64 y] w fun e w' => Below w.heap.size w w' ∧ ((badHhea l y = false ∧ e = .returned (.int .i64 (numAt l 34 2))) ∨ (badHhea l y = true ∧ e = gone 50)) := by
  have HOK := Lib.hid (fun wx => reqFont_ok wx)
  have HNO := Lib.hid (fun wx => reqFont_bad wx)
  obtain ⟨bd, hbd⟩ : ∃ bd, bd = badHhea l y := ⟨_, rfl⟩
  rw [← hbd]
  unfold badHhea at hbd
  have hmb := numAt_b hA 34 2
  have HX0 := Lib.hid (Below.refl w.heap.size w)
  by_cases h6 : l.length = 36
  · have HLa : Hid (∀ wx, Below w.heap.size w wx → Calls Try.prog 52 #[r, .int .i64 0] wx fun e w' => e = .returned (.int .u32 (numAt l 0 4)) ∧ Below wx.heap.size wx w') := Lib.hid (fun wx hb => rdL wx r l (hr.below hb) hA (by omega) 0 (by omega))
    have HWm : Hid (∀ wx, Below w.heap.size w wx → Calls Try.prog 47 #[r, .int .i64 34] wx fun e w' => e = .returned (.int .u16 (numAt l 34 2)) ∧ Below wx.heap.size wx w') := Lib.hid (fun wx hb => rdW wx r l (hr.below hb) hA (by omega) 34 (by omega))
    have HZ := Lib.hid (size_ok w r l hr 36 (by omega))
    rw [h6] at hbd
    generalize numAt l 0 4 = a at HLa hbd
    generalize numAt l 34 2 = m at HWm hbd hmb ⊢
    have qm : IntKind.i64.wrap m = m := by rw [IntKind.wrap_i64]; omega
    clear hr hA h6
    by_cases h1 : a = 65536
    · have b1 : (a == 65536) = true := by simp [h1]
      by_cases h2 : 1 ≤ m
      · have b2 : ((1 : Int) ≤ m) = True := eq_true h2
        by_cases h3 : m ≤ y
        · have b3 : (m ≤ y) = True := eq_true h3
          have HV : Hid (bd = false) := Lib.hid (by rw [hbd]; simp [h1]; omega)
          clear hbd h1 h2 h3 hmb
          go_enter Try.func42, Try.ntmps42
          go_wp2_with fail
          refine (HZ.out).mono ?_
          rintro e wz ⟨rfl, rfl⟩
          go_wp2_with fail
          refine (HWm.out _ HX0.out).mono ?_
          rintro e w1 ⟨rfl, hb⟩
          have HX1 := Lib.hid (HX0.out.trans (hb.mono HX0.out.size))
          clear hb
          go_wp2_with fail
          refine (HLa.out _ HX1.out).mono ?_
          rintro e w2 ⟨rfl, hb⟩
          have HX2 := Lib.hid (HX1.out.trans (hb.mono HX1.out.size))
          clear hb
          go_wp2_with fail
          refine (HOK.out _).mono ?_
          rintro e wz ⟨rfl, rfl⟩
          go_wp2_with fail
          go_ret
          exact ⟨HX2.out, .inl ⟨HV.out, rfl⟩⟩
        · have b3 : (m ≤ y) = False := eq_false h3
          have HV : Hid (bd = true) := Lib.hid (by rw [hbd]; simp; omega)
          clear hbd h1 h2 h3 hmb
          go_enter Try.func42, Try.ntmps42
          go_wp2_with fail
          refine (HZ.out).mono ?_
          rintro e wz ⟨rfl, rfl⟩
          go_wp2_with fail
          refine (HWm.out _ HX0.out).mono ?_
          rintro e w1 ⟨rfl, hb⟩
          have HX1 := Lib.hid (HX0.out.trans (hb.mono HX0.out.size))
          clear hb
          go_wp2_with fail
          refine (HLa.out _ HX1.out).mono ?_
          rintro e w2 ⟨rfl, hb⟩
          have HX2 := Lib.hid (HX1.out.trans (hb.mono HX1.out.size))
          clear hb
          go_wp2_with fail
          refine (HNO.out _).mono ?_
          rintro e wz ⟨rfl, rfl⟩
          exact ⟨rfl, HX2.out, .inr ⟨HV.out, rfl⟩⟩
      · have b2 : ((1 : Int) ≤ m) = False := eq_false h2
        have HV : Hid (bd = true) := Lib.hid (by rw [hbd]; simp; omega)
        clear hbd h1 h2 hmb
        go_enter Try.func42, Try.ntmps42
        go_wp2_with fail
        refine (HZ.out).mono ?_
        rintro e wz ⟨rfl, rfl⟩
        go_wp2_with fail
        refine (HWm.out _ HX0.out).mono ?_
        rintro e w1 ⟨rfl, hb⟩
        have HX1 := Lib.hid (HX0.out.trans (hb.mono HX0.out.size))
        clear hb
        go_wp2_with fail
        refine (HLa.out _ HX1.out).mono ?_
        rintro e w2 ⟨rfl, hb⟩
        have HX2 := Lib.hid (HX1.out.trans (hb.mono HX1.out.size))
        clear hb
        go_wp2_with fail
        refine (HNO.out _).mono ?_
        rintro e wz ⟨rfl, rfl⟩
        exact ⟨rfl, HX2.out, .inr ⟨HV.out, rfl⟩⟩
    · have b1 : (a == 65536) = false := by simp [h1]
      have HV : Hid (bd = true) := Lib.hid (by rw [hbd]; simp [h1])
      clear hbd h1 hmb
      go_enter Try.func42, Try.ntmps42
      go_wp2_with fail
      refine (HZ.out).mono ?_
      rintro e wz ⟨rfl, rfl⟩
      go_wp2_with fail
      refine (HWm.out _ HX0.out).mono ?_
      rintro e w1 ⟨rfl, hb⟩
      have HX1 := Lib.hid (HX0.out.trans (hb.mono HX0.out.size))
      clear hb
      go_wp2_with fail
      refine (HLa.out _ HX1.out).mono ?_
      rintro e w2 ⟨rfl, hb⟩
      have HX2 := Lib.hid (HX1.out.trans (hb.mono HX1.out.size))
      clear hb
      go_wp2_with fail
      refine (HNO.out _).mono ?_
      rintro e wz ⟨rfl, rfl⟩
      exact ⟨rfl, HX2.out, .inr ⟨HV.out, rfl⟩⟩
  · have HZ := Lib.hid (size_bad w r l hr 36 (by omega))
    have HV : Hid (bd = true) := Lib.hid (by rw [hbd]; simp [h6])
    clear hr hA hmb hbd h6
    go_enter Try.func42, Try.ntmps42
    go_wp2_with fail
    refine (HZ.out).mono ?_
    rintro e wz ⟨rfl, rfl⟩
    exact ⟨rfl, HX0.out, .inr ⟨HV.out, rfl⟩⟩
end Go.Proofs.Ytlpnikolnohcaaa
