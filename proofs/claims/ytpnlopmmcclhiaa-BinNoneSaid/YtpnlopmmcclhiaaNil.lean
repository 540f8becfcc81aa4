/-
  A reader that is not there.
-/
import Derived.Test.YtpnlopmmcclhiaaNum
namespace Go.Proofs.Ytpnlopmmcclhiaa
open Go Go.RowKit

set_option maxRecDepth 20000 in
theorem nil_has (w : World) (p n s : Int) : Calls Try.prog 26 #[.pointer none, .int .i64 p, .int .i64 n, .int .i64 s] w fun e w' => e = .returned (.bool false) ∧ w = w' := by
  go_enter Try.func26, Try.ntmps26
  go_wp2_with fail
  go_ret
  exact ⟨rfl, rfl⟩

set_option maxRecDepth 20000 in
theorem nil_Bad (w : World) : Calls Try.prog 9 #[.pointer none] w fun e w' => e = .returned (.bool true) ∧ w = w' := by
  go_enter Try.func9, Try.ntmps9
  go_wp2_with fail
  go_ret
  exact ⟨rfl, rfl⟩

set_option maxRecDepth 20000 in
theorem nil_Len (w : World) : Calls Try.prog 10 #[.pointer none] w fun e w' => e = .returned (.int .i64 0) ∧ w = w' := by
  go_enter Try.func10, Try.ntmps10
  go_wp2_with fail
  go_ret
  exact ⟨rfl, rfl⟩

set_option maxRecDepth 20000 in
theorem nil_Byte (w : World) (p : Int) : Calls Try.prog 11 #[.pointer none, .int .i64 p] w fun e w' => e = .returned (.int .u8 0) ∧ w = w' := by
  have HH := Lib.hid (nil_has w p 1 1)
  go_enter Try.func11, Try.ntmps11
  go_wp2_with fail
  refine (HH.out).mono ?_
  rintro e w1 ⟨rfl, rfl⟩
  go_wp2_with fail
  go_ret
  exact ⟨rfl, rfl⟩

set_option maxRecDepth 20000 in
theorem nil_Word (w : World) (p : Int) : Calls Try.prog 12 #[.pointer none, .int .i64 p] w fun e w' => e = .returned (.int .u16 0) ∧ w = w' := by
  have HH := Lib.hid (nil_has w p 1 2)
  go_enter Try.func12, Try.ntmps12
  go_wp2_with fail
  refine (HH.out).mono ?_
  rintro e w1 ⟨rfl, rfl⟩
  go_wp2_with fail
  go_ret
  exact ⟨rfl, rfl⟩

set_option maxRecDepth 20000 in
theorem nil_Int (w : World) (p : Int) : Calls Try.prog 13 #[.pointer none, .int .i64 p] w fun e w' => e = .returned (.int .i16 0) ∧ w = w' := by
  have HH := Lib.hid (nil_Word w p)
  go_enter Try.func13, Try.ntmps13
  go_wp2_with fail
  refine (HH.out).mono ?_
  rintro e w1 ⟨rfl, rfl⟩
  go_wp2_with fail
  go_ret
  exact ⟨rfl, rfl⟩

set_option maxRecDepth 20000 in
theorem nil_Long (w : World) (p : Int) : Calls Try.prog 14 #[.pointer none, .int .i64 p] w fun e w' => e = .returned (.int .u32 0) ∧ w = w' := by
  have HH := Lib.hid (nil_has w p 1 4)
  go_enter Try.func14, Try.ntmps14
  go_wp2_with fail
  refine (HH.out).mono ?_
  rintro e w1 ⟨rfl, rfl⟩
  go_wp2_with fail
  go_ret
  exact ⟨rfl, rfl⟩

set_option maxRecDepth 20000 in
theorem nil_Part (w : World) (p : Int) (n : Int) : Calls Try.prog 15 #[.pointer none, .int .i64 p, .int .i64 n] w fun e w' => e = .returned (.pointer none) ∧ w = w' := by
  go_enter Try.func15, Try.ntmps15
  go_wp2_with fail
  go_ret
  exact ⟨rfl, rfl⟩

set_option maxRecDepth 20000 in
theorem nil_Words (w : World) (p : Int) (n : Int) : Calls Try.prog 16 #[.pointer none, .int .i64 p, .int .i64 n] w fun e w' => e = .returned (.slice none 0 0) ∧ w = w' := by
  have HH := Lib.hid (nil_has w p n 2)
  go_enter Try.func16, Try.ntmps16
  go_wp2_with fail
  refine (HH.out).mono ?_
  rintro e w1 ⟨rfl, rfl⟩
  go_wp2_with fail
  go_ret
  exact ⟨rfl, rfl⟩

set_option maxRecDepth 20000 in
theorem nil_Bytes (w : World) : Calls Try.prog 17 #[.pointer none] w fun e w' => e = .returned (.slice none 0 0) ∧ w = w' := by
  go_enter Try.func17, Try.ntmps17
  go_wp2_with fail
  go_ret
  exact ⟨rfl, rfl⟩

end Go.Proofs.Ytpnlopmmcclhiaa
