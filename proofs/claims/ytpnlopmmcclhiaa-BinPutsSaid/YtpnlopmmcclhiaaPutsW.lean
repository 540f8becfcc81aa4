/-
  BinPuts, given both Puts.
-/
import Derived.Test.YtpnlopmmcclhiaaBackA
namespace Go.Proofs.Ytpnlopmmcclhiaa
open Go Go.RowKit

set_option maxRecDepth 20000 in
theorem binPuts_any (hP : PutC 19) (hR : PutC 20) (w : World) (v : Value) (l : List Int) (hv : NumZ .i64 w v l) (s : ByteArray) :
    Calls Try.prog 4 #[v, .string s] w fun e w' => e = .returned (.bool true) ∧ Below w.heap.size w w' := by
  have hv' := hv
  obtain ⟨A, c, rfl, _, _, _⟩ := hv'
  rename_i g1 g2 g3
  have HW := Lib.hid (fun w => works4_any hP w)
  by_cases h1 : l.length ≤ 500
  · have b1 : (500 < (l.length : Int)) = False := eq_false (by omega)
    by_cases h2 : s.size ≤ 1000
    · have b2 : (1000 < (s.size : Int)) = False := eq_false (by omega)
      have HPT := Lib.hid (hP w _ l s hv (by omega) (by omega))
      have HRT : Hid (∀ wx, Below w.heap.size w wx → Calls Try.prog 20 #[.slice A l.length c, .string s] wx fun e w' => Below wx.heap.size wx w' ∧ ∃ r, e = .returned (.tuple #[r, .int .i64 (putA l s).1]) ∧ OwnB wx.heap.size w' r (putA l s).2) := Lib.hid (fun wx hb => hR wx _ l s (hv.below hb) (by omega) (by omega))
      have HSB : Hid (∀ wx a b, NumZ .u8 wx a (putA l s).2 → NumZ .u8 wx b (putA l s).2 → Calls Try.prog 21 #[a, b] wx fun e w' => e = .returned (.bool true) ∧ wx = w') := Lib.hid (fun wx a b ha hb => sameB_any _ a b wx ha hb)
      generalize putA l s = q at HPT HRT HSB
      obtain ⟨en, bs⟩ := q
      have be : (en == en) = true := by simp
      clear g1 g2 g3 hv h1 h2
      generalize l.length = N at b1 HPT HRT ⊢
      go_enter Try.func4, Try.ntmps4
      go_wp2_with fail
      refine (HPT.out).mono ?_
      rintro e w1 ⟨hb1, r1, rfl, how1⟩
      have HB1 := Lib.hid hb1
      have HO1 := Lib.hid how1.read
      clear hb1 how1
      go_wp2_with fail
      refine (HRT.out _ HB1.out).mono ?_
      rintro e w2 ⟨hb2, r2, rfl, how2⟩
      have HB2 := Lib.hid (HB1.out.trans (hb2.mono HB1.out.size))
      have HO2 := Lib.hid how2.read
      have HO12 := Lib.hid (HO1.out.below hb2)
      clear hb2 how2
      go_wp2_with fail
      refine (HSB.out _ _ _ HO12.out HO2.out).mono ?_
      rintro e w3 ⟨rfl, rfl⟩
      go_wp2_with fail
      refine (HW.out _).mono ?_
      rintro e w4 ⟨rfl, hb4⟩
      have HB4 := Lib.hid (HB2.out.trans (hb4.mono HB2.out.size))
      clear hb4
      go_wp2_with fail
      go_ret
      exact ⟨rfl, HB4.out⟩
    · have b2 : (1000 < (s.size : Int)) = True := eq_true (by omega)
      clear g1 g2 g3 hv h1 h2
      generalize l.length = N at b1 ⊢
      go_enter Try.func4, Try.ntmps4
      go_wp2_with fail
      refine (HW.out _).mono ?_
      rintro e w2 ⟨rfl, hb2⟩
      go_wp2_with fail
      go_ret
      exact ⟨rfl, hb2⟩
  · have b1 : (500 < (l.length : Int)) = True := eq_true (by omega)
    clear g1 g2 g3 hv h1
    generalize l.length = N at b1 ⊢
    go_enter Try.func4, Try.ntmps4
    go_wp2_with fail
    refine (HW.out _).mono ?_
    rintro e w2 ⟨rfl, hb2⟩
    go_wp2_with fail
    go_ret
    exact ⟨rfl, hb2⟩
end Go.Proofs.Ytpnlopmmcclhiaa
