/-
  sfnt.Head: the table head.
-/
import Derived.Test.YtlpnikolnohcaaaFlt
import Derived.Test.YtlpnikolnohcaaaHeadR
namespace Go.Proofs.Ytlpnikolnohcaaa
open Go Go.RowKit

theorem numAt2 (l : List Int) (p : Nat) (h : p + 1 < l.length) : numAt l (p : Int) 2 = wordAt l p := by
  unfold numAt wordAt
  rw [if_pos (by unfold allB; rw [decide_eq_true_eq]; omega)]
  simp [numF]

theorem numAt4 (l : List Int) (p : Nat) (h : p + 3 < l.length) : numAt l (p : Int) 4 = wordAt l p * 65536 + wordAt l (p + 2) := by
  unfold numAt wordAt
  rw [if_pos (by unfold allB; rw [decide_eq_true_eq]; omega)]
  simp only [numF, Int.toNat_natCast, Nat.add_zero]
  rw [show p + 2 + 1 = p + 3 by omega]
  omega

/-- W, L of bytes that are there -/
theorem rdW (w : World) (r : Value) (l : List Int) (hr : RdZ w r l) (hA : AllB l) (hl : l.length ≤ 1000000000) (p : Nat) (h : p + 1 < l.length) :
    Calls Try.prog 47 #[r, .int .i64 (p : Int)] w fun e w' => e = .returned (.int .u16 (numAt l (p : Int) 2)) ∧ Below w.heap.size w w' := by
  rw [numAt2 l p h]
  exact rd_word2 w r l hr hA hl p h

theorem rdI (w : World) (r : Value) (l : List Int) (hr : RdZ w r l) (hA : AllB l) (hl : l.length ≤ 1000000000) (p : Nat) (h : p + 1 < l.length) :
    Calls Try.prog 44 #[r, .int .i64 (p : Int)] w fun e w' => e = .returned (.int .i16 (IntKind.i16.wrap (numAt l (p : Int) 2))) ∧ Below w.heap.size w w' := by
  rw [numAt2 l p h]
  exact rd_int w r l hr hA hl p h

theorem rdL (w : World) (r : Value) (l : List Int) (hr : RdZ w r l) (hA : AllB l) (hl : l.length ≤ 1000000000) (p : Nat) (h : p + 3 < l.length) :
    Calls Try.prog 52 #[r, .int .i64 (p : Int)] w fun e w' => e = .returned (.int .u32 (numAt l (p : Int) 4)) ∧ Below w.heap.size w w' := by
  rw [numAt4 l p h]
  exact rd_long w r l hr hA hl p h

set_option maxRecDepth 20000 in
theorem sound_ok (w : World) (r : Value) (l : List Int) (hr : RdZ w r l) : Calls Try.prog 67 #[r] w fun e w' => e = .returned (.tuple #[]) ∧ w = w' := by
  have HB := Lib.hid (rd_bad w r l hr)
  have HR := Lib.hid (reqFont_ok w)
  clear hr
  go_enter Try.func67, Try.ntmps67
  go_wp2_with fail
  refine (HB.out).mono ?_
  rintro e w' ⟨rfl, rfl⟩
  go_wp2_with fail
  refine (HR.out).mono ?_
  rintro e w' ⟨rfl, rfl⟩
  go_wp2_with fail
  go_returns
  exact ⟨rfl, rfl⟩

set_option maxRecDepth 20000 in
theorem bad_nil (w : World) : Calls Try.prog 73 #[.pointer none] w fun e w' => e = .returned (.bool true) ∧ w = w' := by
  go_enter Try.func73, Try.ntmps73
  go_wp2_with fail
  go_ret
  exact ⟨rfl, rfl⟩

set_option maxRecDepth 20000 in
theorem sound_nil (w : World) : Calls Try.prog 67 #[.pointer none] w fun e w' => e = gone 50 ∧ w = w' := by
  have HB := Lib.hid (bad_nil w)
  have HR := Lib.hid (reqFont_bad w)
  go_enter Try.func67, Try.ntmps67
  go_wp2_with fail
  refine (HB.out).mono ?_
  rintro e w' ⟨rfl, rfl⟩
  go_wp2_with fail
  refine (HR.out).mono ?_
  rintro e w' ⟨rfl, rfl⟩
  exact ⟨rfl, rfl, rfl⟩

set_option maxRecDepth 20000 in
theorem size_nil (w : World) (n : Int) : Calls Try.prog 66 #[.pointer none, .int .i64 n] w fun e w' => e = gone 50 ∧ w = w' := by
  have HB := Lib.hid (sound_nil w)
  go_enter Try.func66, Try.ntmps66
  go_wp2_with fail
  refine (HB.out).mono ?_
  rintro e w' ⟨rfl, rfl⟩
  exact ⟨rfl, rfl, rfl⟩

set_option maxRecDepth 20000 in
theorem size_ok (w : World) (r : Value) (l : List Int) (hr : RdZ w r l) (n : Int) (hn : (l.length : Int) = n) : Calls Try.prog 66 #[r, .int .i64 n] w fun e w' => e = .returned (.tuple #[]) ∧ w = w' := by
  have HS := Lib.hid (sound_ok w r l hr)
  have HL := Lib.hid (rd_len w r l hr)
  have HR := Lib.hid (reqFont_ok w)
  rw [hn] at HL
  have b1 : (n == n) = true := by simp
  clear hr hn
  go_enter Try.func66, Try.ntmps66
  go_wp2_with fail
  refine (HS.out).mono ?_
  rintro e w' ⟨rfl, rfl⟩
  go_wp2_with fail
  refine (HL.out).mono ?_
  rintro e w' ⟨rfl, rfl⟩
  go_wp2_with fail
  refine (HR.out).mono ?_
  rintro e w' ⟨rfl, rfl⟩
  go_wp2_with fail
  go_returns
  exact ⟨rfl, rfl⟩

set_option maxRecDepth 20000 in
theorem size_bad (w : World) (r : Value) (l : List Int) (hr : RdZ w r l) (n : Int) (hn : ¬ (l.length : Int) = n) : Calls Try.prog 66 #[r, .int .i64 n] w fun e w' => e = gone 50 ∧ w = w' := by
  have HS := Lib.hid (sound_ok w r l hr)
  have HL := Lib.hid (rd_len w r l hr)
  have HR := Lib.hid (reqFont_bad w)
  generalize (l.length : Int) = N at HL hn
  have b1 : (N == n) = false := by simp [hn]
  clear hr hn
  go_enter Try.func66, Try.ntmps66
  go_wp2_with fail
  refine (HS.out).mono ?_
  rintro e w' ⟨rfl, rfl⟩
  go_wp2_with fail
  refine (HL.out).mono ?_
  rintro e w' ⟨rfl, rfl⟩
  go_wp2_with fail
  refine (HR.out).mono ?_
  rintro e w' ⟨rfl, rfl⟩
  exact ⟨rfl, rfl, rfl⟩

set_option maxHeartbeats 4000000 in
set_option maxRecDepth 20000 in
theorem unitsOf_any (w : World) (r : Value) (l : List Int) (hr : RdZ w r l) (hA : AllB l) :
    Calls Try.prog 38 #[r] w fun e w' => Below w.heap.size w w' ∧ ((badHead l = false ∧ e = .returned (.int .u16 (numAt l 18 2))) ∨ (badHead l = true ∧ e = gone 50)) := by
  by_cases h0 : (l.length : Int) = 54
  · have HZ := Lib.hid (size_ok w r l hr 54 h0)
    have HLa : Hid (∀ wx, Below w.heap.size w wx → Calls Try.prog 52 #[r, .int .i64 0] wx fun e w' => e = .returned (.int .u32 (numAt l 0 4)) ∧ Below wx.heap.size wx w') := Lib.hid (fun wx hb => rdL wx r l (hr.below hb) hA (by omega) 0 (by omega))
    have HLb : Hid (∀ wx, Below w.heap.size w wx → Calls Try.prog 52 #[r, .int .i64 12] wx fun e w' => e = .returned (.int .u32 (numAt l 12 4)) ∧ Below wx.heap.size wx w') := Lib.hid (fun wx hb => rdL wx r l (hr.below hb) hA (by omega) 12 (by omega))
    have HWu : Hid (∀ wx, Below w.heap.size w wx → Calls Try.prog 47 #[r, .int .i64 18] wx fun e w' => e = .returned (.int .u16 (numAt l 18 2)) ∧ Below wx.heap.size wx w') := Lib.hid (fun wx hb => rdW wx r l (hr.below hb) hA (by omega) 18 (by omega))
    have HWd : Hid (∀ wx, Below w.heap.size w wx → Calls Try.prog 44 #[r, .int .i64 50] wx fun e w' => e = .returned (.int .i16 (IntKind.i16.wrap (numAt l 50 2))) ∧ Below wx.heap.size wx w') := Lib.hid (fun wx hb => rdI wx r l (hr.below hb) hA (by omega) 50 (by omega))
    have HOK := Lib.hid (fun wx => reqFont_ok wx)
    have HNO := Lib.hid (fun wx => reqFont_bad wx)
    obtain ⟨bd, hbd⟩ : ∃ bd, bd = badHead l := ⟨_, rfl⟩
    rw [← hbd]
    unfold badHead at hbd
    have hub := numAt_b hA 50 2
    have hl54 : l.length = 54 := by omega
    generalize numAt l 0 4 = a at HLa hbd
    generalize numAt l 12 4 = b at HLb hbd
    generalize numAt l 18 2 = u at HWu hbd ⊢
    generalize numAt l 50 2 = d at HWd hbd hub
    obtain ⟨s, hs⟩ : ∃ s, s = IntKind.i16.wrap d := ⟨_, rfl⟩
    rw [← hs] at HWd
    have hs0 : s = 0 ↔ d = 0 := by rw [hs, wrap_i16]; omega
    have hs1 : s = 1 ↔ d = 1 := by rw [hs, wrap_i16]; omega
    have HB0 := Lib.hid (Below.refl w.heap.size w)
    clear hr hA hs h0
    by_cases h1 : a = 65536
    · have b1 : (a == 65536) = true := by simp [h1]
      by_cases h2 : b = 1594834165
      · have b2 : (b == 1594834165) = true := by simp [h2]
        by_cases h3 : 16 ≤ u
        · have b3 : (16 ≤ u) = True := eq_true h3
          by_cases h4 : u ≤ 16384
          · have b4 : (u ≤ 16384) = True := eq_true h4
            by_cases h5 : d = 0
            · have b5 : (s == 0) = true := by simp [hs0.2 h5]
              have HV : Hid (bd = false) := Lib.hid (by rw [hbd]; simp [hl54, h1, h2, h5, show ¬ u < 16 by omega, show ¬ 16384 < u by omega])
              clear h1 h2 h3 h4 h5
              clear hbd hub hs0 hs1 hl54
              go_enter Try.func38, Try.ntmps38
              go_wp2_with fail
              refine (HZ.out).mono ?_
              rintro e w0 ⟨rfl, rfl⟩
              have HX0 := HB0
              go_wp2_with fail
              refine (HLa.out _ HX0.out).mono ?_
              rintro e w1 ⟨rfl, hb⟩
              have HX1 := Lib.hid (HX0.out.trans (hb.mono HX0.out.size))
              clear hb
              go_wp2_with fail
              refine (HLb.out _ HX1.out).mono ?_
              rintro e w2 ⟨rfl, hb⟩
              have HX2 := Lib.hid (HX1.out.trans (hb.mono HX1.out.size))
              clear hb
              go_wp2_with fail
              refine (HOK.out _).mono ?_
              rintro e wq ⟨rfl, rfl⟩
              go_wp2_with fail
              refine (HWu.out _ HX2.out).mono ?_
              rintro e w3 ⟨rfl, hb⟩
              have HX3 := Lib.hid (HX2.out.trans (hb.mono HX2.out.size))
              clear hb
              go_wp2_with fail
              refine (HWd.out _ HX3.out).mono ?_
              rintro e w4 ⟨rfl, hb⟩
              have HX4 := Lib.hid (HX3.out.trans (hb.mono HX3.out.size))
              clear hb
              go_wp2_with fail
              refine (HOK.out _).mono ?_
              rintro e wq ⟨rfl, rfl⟩
              go_wp2_with fail
              refine (HOK.out _).mono ?_
              rintro e wq ⟨rfl, rfl⟩
              go_wp2_with fail
              go_ret
              exact ⟨HX4.out, .inl ⟨HV.out, rfl⟩⟩
            · have b5 : (s == 0) = false := by simp [hs0, h5]
              by_cases h6 : d = 1
              · have b6 : (s == 1) = true := by simp [hs1.2 h6]
                have HV : Hid (bd = false) := Lib.hid (by rw [hbd]; simp [hl54, h1, h2, h6, show ¬ u < 16 by omega, show ¬ 16384 < u by omega])
                clear h1 h2 h3 h4 h5 h6
                clear hbd hub hs0 hs1 hl54
                go_enter Try.func38, Try.ntmps38
                go_wp2_with fail
                refine (HZ.out).mono ?_
                rintro e w0 ⟨rfl, rfl⟩
                have HX0 := HB0
                go_wp2_with fail
                refine (HLa.out _ HX0.out).mono ?_
                rintro e w1 ⟨rfl, hb⟩
                have HX1 := Lib.hid (HX0.out.trans (hb.mono HX0.out.size))
                clear hb
                go_wp2_with fail
                refine (HLb.out _ HX1.out).mono ?_
                rintro e w2 ⟨rfl, hb⟩
                have HX2 := Lib.hid (HX1.out.trans (hb.mono HX1.out.size))
                clear hb
                go_wp2_with fail
                refine (HOK.out _).mono ?_
                rintro e wq ⟨rfl, rfl⟩
                go_wp2_with fail
                refine (HWu.out _ HX2.out).mono ?_
                rintro e w3 ⟨rfl, hb⟩
                have HX3 := Lib.hid (HX2.out.trans (hb.mono HX2.out.size))
                clear hb
                go_wp2_with fail
                refine (HWd.out _ HX3.out).mono ?_
                rintro e w4 ⟨rfl, hb⟩
                have HX4 := Lib.hid (HX3.out.trans (hb.mono HX3.out.size))
                clear hb
                go_wp2_with fail
                refine (HOK.out _).mono ?_
                rintro e wq ⟨rfl, rfl⟩
                go_wp2_with fail
                refine (HOK.out _).mono ?_
                rintro e wq ⟨rfl, rfl⟩
                go_wp2_with fail
                go_ret
                exact ⟨HX4.out, .inl ⟨HV.out, rfl⟩⟩
              · have b6 : (s == 1) = false := by simp [hs1, h6]
                have HV : Hid (bd = true) := Lib.hid (by rw [hbd]; simp [hl54, show 1 < d by omega])
                clear h1 h2 h3 h4 h5 h6
                clear hbd hub hs0 hs1 hl54
                go_enter Try.func38, Try.ntmps38
                go_wp2_with fail
                refine (HZ.out).mono ?_
                rintro e w0 ⟨rfl, rfl⟩
                have HX0 := HB0
                go_wp2_with fail
                refine (HLa.out _ HX0.out).mono ?_
                rintro e w1 ⟨rfl, hb⟩
                have HX1 := Lib.hid (HX0.out.trans (hb.mono HX0.out.size))
                clear hb
                go_wp2_with fail
                refine (HLb.out _ HX1.out).mono ?_
                rintro e w2 ⟨rfl, hb⟩
                have HX2 := Lib.hid (HX1.out.trans (hb.mono HX1.out.size))
                clear hb
                go_wp2_with fail
                refine (HOK.out _).mono ?_
                rintro e wq ⟨rfl, rfl⟩
                go_wp2_with fail
                refine (HWu.out _ HX2.out).mono ?_
                rintro e w3 ⟨rfl, hb⟩
                have HX3 := Lib.hid (HX2.out.trans (hb.mono HX2.out.size))
                clear hb
                go_wp2_with fail
                refine (HWd.out _ HX3.out).mono ?_
                rintro e w4 ⟨rfl, hb⟩
                have HX4 := Lib.hid (HX3.out.trans (hb.mono HX3.out.size))
                clear hb
                go_wp2_with fail
                refine (HOK.out _).mono ?_
                rintro e wq ⟨rfl, rfl⟩
                go_wp2_with fail
                refine (HNO.out _).mono ?_
                rintro e wq ⟨rfl, rfl⟩
                exact ⟨rfl, HX4.out, .inr ⟨HV.out, rfl⟩⟩
          · have b4 : (u ≤ 16384) = False := eq_false h4
            have HV : Hid (bd = true) := Lib.hid (by rw [hbd]; simp [hl54, show 16384 < u by omega])
            clear h1 h2 h3 h4
            clear hbd hub hs0 hs1 hl54
            go_enter Try.func38, Try.ntmps38
            go_wp2_with fail
            refine (HZ.out).mono ?_
            rintro e w0 ⟨rfl, rfl⟩
            have HX0 := HB0
            go_wp2_with fail
            refine (HLa.out _ HX0.out).mono ?_
            rintro e w1 ⟨rfl, hb⟩
            have HX1 := Lib.hid (HX0.out.trans (hb.mono HX0.out.size))
            clear hb
            go_wp2_with fail
            refine (HLb.out _ HX1.out).mono ?_
            rintro e w2 ⟨rfl, hb⟩
            have HX2 := Lib.hid (HX1.out.trans (hb.mono HX1.out.size))
            clear hb
            go_wp2_with fail
            refine (HOK.out _).mono ?_
            rintro e wq ⟨rfl, rfl⟩
            go_wp2_with fail
            refine (HWu.out _ HX2.out).mono ?_
            rintro e w3 ⟨rfl, hb⟩
            have HX3 := Lib.hid (HX2.out.trans (hb.mono HX2.out.size))
            clear hb
            go_wp2_with fail
            refine (HWd.out _ HX3.out).mono ?_
            rintro e w4 ⟨rfl, hb⟩
            have HX4 := Lib.hid (HX3.out.trans (hb.mono HX3.out.size))
            clear hb
            go_wp2_with fail
            refine (HNO.out _).mono ?_
            rintro e wq ⟨rfl, rfl⟩
            exact ⟨rfl, HX4.out, .inr ⟨HV.out, rfl⟩⟩
        · have b3 : (16 ≤ u) = False := eq_false h3
          have HV : Hid (bd = true) := Lib.hid (by rw [hbd]; simp [hl54, show u < 16 by omega])
          clear h1 h2 h3
          clear hbd hub hs0 hs1 hl54
          go_enter Try.func38, Try.ntmps38
          go_wp2_with fail
          refine (HZ.out).mono ?_
          rintro e w0 ⟨rfl, rfl⟩
          have HX0 := HB0
          go_wp2_with fail
          refine (HLa.out _ HX0.out).mono ?_
          rintro e w1 ⟨rfl, hb⟩
          have HX1 := Lib.hid (HX0.out.trans (hb.mono HX0.out.size))
          clear hb
          go_wp2_with fail
          refine (HLb.out _ HX1.out).mono ?_
          rintro e w2 ⟨rfl, hb⟩
          have HX2 := Lib.hid (HX1.out.trans (hb.mono HX1.out.size))
          clear hb
          go_wp2_with fail
          refine (HOK.out _).mono ?_
          rintro e wq ⟨rfl, rfl⟩
          go_wp2_with fail
          refine (HWu.out _ HX2.out).mono ?_
          rintro e w3 ⟨rfl, hb⟩
          have HX3 := Lib.hid (HX2.out.trans (hb.mono HX2.out.size))
          clear hb
          go_wp2_with fail
          refine (HWd.out _ HX3.out).mono ?_
          rintro e w4 ⟨rfl, hb⟩
          have HX4 := Lib.hid (HX3.out.trans (hb.mono HX3.out.size))
          clear hb
          go_wp2_with fail
          refine (HNO.out _).mono ?_
          rintro e wq ⟨rfl, rfl⟩
          exact ⟨rfl, HX4.out, .inr ⟨HV.out, rfl⟩⟩
      · have b2 : (b == 1594834165) = false := by simp [h2]
        have HV : Hid (bd = true) := Lib.hid (by rw [hbd]; simp [hl54, h2])
        clear h1 h2
        clear hbd hub hs0 hs1 hl54
        go_enter Try.func38, Try.ntmps38
        go_wp2_with fail
        refine (HZ.out).mono ?_
        rintro e w0 ⟨rfl, rfl⟩
        have HX0 := HB0
        go_wp2_with fail
        refine (HLa.out _ HX0.out).mono ?_
        rintro e w1 ⟨rfl, hb⟩
        have HX1 := Lib.hid (HX0.out.trans (hb.mono HX0.out.size))
        clear hb
        go_wp2_with fail
        refine (HLb.out _ HX1.out).mono ?_
        rintro e w2 ⟨rfl, hb⟩
        have HX2 := Lib.hid (HX1.out.trans (hb.mono HX1.out.size))
        clear hb
        go_wp2_with fail
        refine (HNO.out _).mono ?_
        rintro e wq ⟨rfl, rfl⟩
        exact ⟨rfl, HX2.out, .inr ⟨HV.out, rfl⟩⟩
    · have b1 : (a == 65536) = false := by simp [h1]
      have HV : Hid (bd = true) := Lib.hid (by rw [hbd]; simp [hl54, h1])
      clear h1
      clear hbd hub hs0 hs1 hl54
      go_enter Try.func38, Try.ntmps38
      go_wp2_with fail
      refine (HZ.out).mono ?_
      rintro e w0 ⟨rfl, rfl⟩
      have HX0 := HB0
      go_wp2_with fail
      refine (HLa.out _ HX0.out).mono ?_
      rintro e w1 ⟨rfl, hb⟩
      have HX1 := Lib.hid (HX0.out.trans (hb.mono HX0.out.size))
      clear hb
      go_wp2_with fail
      refine (HNO.out _).mono ?_
      rintro e wq ⟨rfl, rfl⟩
      exact ⟨rfl, HX1.out, .inr ⟨HV.out, rfl⟩⟩
  · have HZ := Lib.hid (size_bad w r l hr 54 h0)
    have HV : Hid (badHead l = true) := Lib.hid (by unfold badHead; simp; omega)
    generalize badHead l = bd at HV ⊢
    clear hr hA h0
    go_enter Try.func38, Try.ntmps38
    go_wp2_with fail
    refine (HZ.out).mono ?_
    rintro e w0 ⟨rfl, rfl⟩
    exact ⟨rfl, Below.refl _ _, .inr ⟨HV.out, rfl⟩⟩

set_option maxRecDepth 20000 in
theorem unitsOf_nil (w : World) : Calls Try.prog 38 #[.pointer none] w fun e w' => Below w.heap.size w w' ∧ e = gone 50 := by
  have HZ := Lib.hid (size_nil w 54)
  go_enter Try.func38, Try.ntmps38
  go_wp2_with fail
  refine (HZ.out).mono ?_
  rintro e w0 ⟨rfl, rfl⟩
  exact ⟨rfl, Below.refl _ _, rfl⟩
end Go.Proofs.Ytlpnikolnohcaaa
