/-
  The short call that stands in each statement of layer 4, given what Put answers.
-/
import Derived.Test.YtpnlopmmcclhiaaRd4
import Derived.Test.YtpnlopmmcclhiaaSum
import Derived.Test.YtpnlopmmcclhiaaPutS
namespace Go.Proofs.Ytpnlopmmcclhiaa
open Go Go.RowKit

theorem RdZ.ptr {w : World} {r : Value} {l : List Int} (h : RdZ w r l) : ∃ gr, r = .pointer (some ⟨gr, 0, none⟩) := by
  obtain ⟨gr, gs, A, c, e, _⟩ := h
  exact ⟨gr, e⟩

theorem b4 : AllB [1, 2, 255, 254] := fun x hx => by simp at hx; omega

set_option maxHeartbeats 2000000 in
set_option maxRecDepth 20000 in
theorem works4_any (hP : PutC 19) (w : World) : Calls Try.prog 18 #[] w fun e w' => e = .returned (.bool true) ∧ Below w.heap.size w w' := by
  have HO : Hid (∀ w v, NumZ .u8 w v [1, 2, 255, 254] → (∀ n c, v = .slice none n c → n = 0 ∧ c = 0) → Calls Try.prog 22 #[v] w fun e w' => Below w.heap.size w w' ∧ ∃ r, e = .returned r ∧ RdZ w' r [1, 2, 255, 254]) := Lib.hid (fun w v hv hn => open_any w v _ hv hn (by decide))
  have HPT : Hid (∀ w v, NumZ .i64 w v [258, -2, 5] → Calls Try.prog 19 #[v, .string ⟨#[72, 104, 98]⟩] w fun e w' => Below w.heap.size w w' ∧ ∃ r, e = .returned (.tuple #[r, .int .i64 0]) ∧ OwnB w.heap.size w' r [1, 2, 255, 254, 5]) := Lib.hid (fun w v hv => by
    have h := hP w v [258, -2, 5] ⟨#[72, 104, 98]⟩ hv (by decide) (by decide)
    have e : putA [258, -2, 5] ⟨#[72, 104, 98]⟩ = (0, [1, 2, 255, 254, 5]) := by kernel_rfl
    rw [e] at h
    exact h)
  have HW0 : Hid (∀ w r, RdZ w r [1, 2, 255, 254] → Calls Try.prog 12 #[r, .int .i64 0] w fun e w' => e = .returned (.int .u16 258) ∧ Below w.heap.size w w') := Lib.hid (fun w r hr => by
    have h := rd_word2 w r _ hr b4 (by decide) 0 (by decide)
    have e : wordAt [1, 2, 255, 254] 0 = 258 := by kernel_rfl
    rw [e] at h
    exact h)
  have HI2 : Hid (∀ w r, RdZ w r [1, 2, 255, 254] → Calls Try.prog 13 #[r, .int .i64 2] w fun e w' => e = .returned (.int .i16 (-2)) ∧ Below w.heap.size w w') := Lib.hid (fun w r hr => by
    have h := rd_int w r _ hr b4 (by decide) 2 (by decide)
    have e : IntKind.i16.wrap (wordAt [1, 2, 255, 254] 2) = -2 := by kernel_rfl
    rw [e] at h
    exact h)
  have HL0 : Hid (∀ w r, RdZ w r [1, 2, 255, 254] → Calls Try.prog 14 #[r, .int .i64 0] w fun e w' => e = .returned (.int .u32 16973822) ∧ Below w.heap.size w w') := Lib.hid (fun w r hr => by
    have h := rd_long w r _ hr b4 (by decide) 0 (by decide)
    have e : wordAt [1, 2, 255, 254] 0 * 65536 + wordAt [1, 2, 255, 254] (0 + 2) = 16973822 := by kernel_rfl
    rw [e] at h
    exact h)
  have HBD : Hid (∀ w r, RdZ w r [1, 2, 255, 254] → Calls Try.prog 9 #[r] w fun e w' => e = .returned (.bool false) ∧ w = w') := Lib.hid (fun w r hr => rd_bad w r _ hr)
  have HPA : Hid (∀ w r, RdZ w r [1, 2, 255, 254] → Calls Try.prog 15 #[r, .int .i64 1, .int .i64 2] w fun e w' => Below w.heap.size w w' ∧ ∃ r', e = .returned r' ∧ RdZ w' r' [2, 255]) := Lib.hid (fun w r hr => rd_part w r _ hr (by decide) 1 2 (by decide))
  have HWP : Hid (∀ w r, RdZ w r [2, 255] → Calls Try.prog 12 #[r, .int .i64 0] w fun e w' => e = .returned (.int .u16 767) ∧ Below w.heap.size w w') := Lib.hid (fun w r hr => by
    have h := rd_word2 w r _ hr (fun x hx => by simp at hx; omega) (by decide) 0 (by decide)
    have e : wordAt [2, 255] 0 = 767 := by kernel_rfl
    rw [e] at h
    exact h)
  have HSB : Hid (∀ w a b, NumZ .u8 w a [1, 2, 255, 254, 5] → NumZ .u8 w b [1, 2, 255, 254, 5] → Calls Try.prog 21 #[a, b] w fun e w' => e = .returned (.bool true) ∧ w = w') := Lib.hid (fun w a b ha hb => sameB_any _ a b w ha hb)
  have HSU : Hid (∀ w v, NumZ .u8 w v [0, 0, 0, 1, 128] → Calls Try.prog 23 #[v] w fun e w' => e = .returned (.int .u32 2147483649) ∧ Below w.heap.size w w') := Lib.hid (fun w v hv => by
    have h := sum_any w v _ hv (fun x hx => by simp at hx; omega) (by decide)
    have e : sumS [0, 0, 0, 1, 128] = 2147483649 := by kernel_rfl
    rw [e] at h
    exact h)
  go_enter Try.func18, Try.ntmps18
  go_wp2_with fail
  have hb0 := fun o => (Below.refl w.heap.size w).alloc (Nat.le_refl _) o
  refine (HO.out _ _ (num_new .u8 w [1, 2, 255, 254] _ (by decide)) (fun n c h => by cases h)).mono ?_
  rintro e w1 ⟨hb1, r, rfl, hr⟩
  obtain ⟨gr, rfl⟩ := hr.ptr
  have HB1 := Lib.hid ((hb0 _).trans (hb1.mono (hb0 _).size))
  have HR1 := Lib.hid hr
  clear hb0 hb1 hr
  go_wp2_with fail
  have ha := fun o => (Below.refl w1.heap.size w1).alloc (Nat.le_refl _) o
  refine (HPT.out _ _ (num_new .i64 w1 [258, -2, 5] _ (by decide))).mono ?_
  rintro e w2 ⟨hb2, r, rfl, how⟩
  have hb12 := (ha _).trans (hb2.mono (ha _).size)
  have HR2 := Lib.hid (HR1.out.below hb12)
  have HB2 := Lib.hid (HB1.out.trans (hb12.mono HB1.out.size))
  have HO2 := Lib.hid how.read
  clear ha hb2 hb12 how
  go_wp2_with fail
  refine (HW0.out _ _ HR2.out).mono ?_
  rintro e w3 ⟨rfl, hb3⟩
  have HB3 := Lib.hid (HB2.out.trans (hb3.mono HB2.out.size))
  have HR3 := Lib.hid (HR2.out.below hb3)
  have HO3 := Lib.hid (HO2.out.below hb3)
  clear hb3
  go_wp2_with fail
  refine (HI2.out _ _ HR3.out).mono ?_
  rintro e w4 ⟨rfl, hb4⟩
  have HB4 := Lib.hid (HB3.out.trans (hb4.mono HB3.out.size))
  have HR4 := Lib.hid (HR3.out.below hb4)
  have HO4 := Lib.hid (HO3.out.below hb4)
  clear hb4
  go_wp2_with fail
  refine (HL0.out _ _ HR4.out).mono ?_
  rintro e w5 ⟨rfl, hb5⟩
  have HB5 := Lib.hid (HB4.out.trans (hb5.mono HB4.out.size))
  have HR5 := Lib.hid (HR4.out.below hb5)
  have HO5 := Lib.hid (HO4.out.below hb5)
  clear hb5
  go_wp2_with fail
  refine (HBD.out _ _ HR5.out).mono ?_
  rintro e w6 ⟨rfl, rfl⟩
  go_wp2_with fail
  refine (HPA.out _ _ HR5.out).mono ?_
  rintro e w7 ⟨hb7, rp, rfl, hrp⟩
  have HB7 := Lib.hid (HB5.out.trans (hb7.mono HB5.out.size))
  have HO7 := Lib.hid (HO5.out.below hb7)
  have HRP := Lib.hid hrp
  clear hb7 hrp
  go_wp2_with fail
  refine (HWP.out _ _ HRP.out).mono ?_
  rintro e w8 ⟨rfl, hb8⟩
  have HB8 := Lib.hid (HB7.out.trans (hb8.mono HB7.out.size))
  have HO8 := Lib.hid (HO7.out.below hb8)
  clear hb8
  go_wp2_with fail
  refine (HSB.out _ _ _ (HO8.out.alloc _) (num_new .u8 w8 [1, 2, 255, 254, 5] _ (by decide))).mono ?_
  rintro e w9 ⟨rfl, rfl⟩
  have HB9 := Lib.hid (fun o => HB8.out.alloc HB8.out.size o)
  go_wp2_with fail
  obtain ⟨w9, hw9⟩ : ∃ w9, w9 = w8.alloc (.cells #[.int .u8 1, .int .u8 2, .int .u8 255, .int .u8 254, .int .u8 5] 5) := ⟨_, rfl⟩
  have HB9' : Hid (Below w.heap.size w w9) := Lib.hid (by rw [hw9]; exact HB9.out _)
  have hs9 : w8.heap.size + 1 = w9.heap.size := by rw [hw9, heap_plus]
  rw [← hw9, hs9]
  clear hw9 HB9 hs9
  refine (HSU.out _ _ (num_new .u8 w9 [0, 0, 0, 1, 128] _ (by decide))).mono ?_
  rintro e w10 ⟨rfl, hb10⟩
  have ha := fun o => (Below.refl w9.heap.size w9).alloc (Nat.le_refl _) o
  have HB10 := Lib.hid (HB9'.out.trans (((ha _).trans (hb10.mono (ha _).size)).mono HB9'.out.size))
  clear ha hb10
  go_wp2_with fail
  go_ret
  exact ⟨rfl, HB10.out⟩
end Go.Proofs.Ytpnlopmmcclhiaa
