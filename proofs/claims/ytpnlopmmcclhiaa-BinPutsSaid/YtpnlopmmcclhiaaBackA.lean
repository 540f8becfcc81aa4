/-
  BinBack, whatever the input.
-/
import Derived.Test.YtpnlopmmcclhiaaBackW
namespace Go.Proofs.Ytpnlopmmcclhiaa
open Go Go.RowKit

theorem putA_cases (l : List Int) (s : ByteArray) : (putA l s = (2, [])) ∨ ∃ b, l.length = s.size ∧ putR l (plan s) = some b ∧ putA l s = (0, b) := by
  unfold putA
  by_cases h : l.length = s.size
  · rw [if_pos h]
    cases hr : putR l (plan s) with
    | none => exact .inl rfl
    | some b => exact .inr ⟨b, h, rfl, rfl⟩
  · rw [if_neg h]; exact .inl rfl

set_option maxRecDepth 20000 in
theorem binBack_any (hP : PutC 19) (w : World) (v : Value) (l : List Int) (hv : NumZ .i64 w v l) (s : ByteArray) :
    Calls Try.prog 5 #[v, .string s] w fun e w' => e = .returned (.bool true) ∧ Below w.heap.size w w' := by
  have hv' := hv
  obtain ⟨A, c, rfl, _, _, _⟩ := hv'
  rename_i g1 g2 g3
  have HW := Lib.hid (fun w => works4_any hP w)
  by_cases h1 : l.length ≤ 500
  · have b1 : (500 < (l.length : Int)) = False := eq_false (by omega)
    by_cases h2 : s.size ≤ 1000
    · have b2 : (1000 < (s.size : Int)) = False := eq_false (by omega)
      rcases putA_cases l s with he | ⟨b, hl, hr, _⟩
      · have HPT := hP w _ l s hv (by omega) (by omega)
        rw [he] at HPT
        have HPT := Lib.hid HPT
        clear g1 g2 g3 hv h1 h2 he
        generalize l.length = N at b1 HPT ⊢
        go_enter Try.func5, Try.ntmps5
        go_wp2_with fail
        refine (HPT.out).mono ?_
        rintro e w1 ⟨hb1, r, rfl, how⟩
        have HB1 := Lib.hid hb1
        obtain ⟨⟨A1, c1, hrv⟩, _⟩ := ownB_cases how
        rw [List.length_nil] at hrv
        subst hrv
        clear hb1 how
        go_wp2_with fail
        refine (HW.out _).mono ?_
        rintro e w2 ⟨rfl, hb2⟩
        have HB2 := Lib.hid (HB1.out.trans (hb2.mono HB1.out.size))
        clear hb2
        go_wp2_with fail
        go_ret
        exact ⟨rfl, HB2.out⟩
      · exact binBack_some hP w A _ c l rfl hv s h1 h2 b hl hr
    · have b2 : (1000 < (s.size : Int)) = True := eq_true (by omega)
      clear g1 g2 g3 hv h1 h2
      generalize l.length = N at b1 ⊢
      go_enter Try.func5, Try.ntmps5
      go_wp2_with fail
      refine (HW.out _).mono ?_
      rintro e w2 ⟨rfl, hb2⟩
      go_wp2_with fail
      go_ret
      exact ⟨rfl, hb2⟩
  · have b1 : (500 < (l.length : Int)) = True := eq_true (by omega)
    clear g1 g2 g3 hv h1
    generalize l.length = N at b1 ⊢
    go_enter Try.func5, Try.ntmps5
    go_wp2_with fail
    refine (HW.out _).mono ?_
    rintro e w2 ⟨rfl, hb2⟩
    go_wp2_with fail
    go_ret
    exact ⟨rfl, hb2⟩
end Go.Proofs.Ytpnlopmmcclhiaa
