/-
  BinNone.
-/
import Derived.Test.YtpnlopmmcclhiaaNil
import Derived.Test.YtpnlopmmcclhiaaWorks4
namespace Go.Proofs.Ytpnlopmmcclhiaa
open Go Go.RowKit

set_option maxRecDepth 20000 in
theorem binNone_any (hP : PutC 19) (w : World) (p n : Int) : Calls Try.prog 3 #[.int .i64 p, .int .i64 n] w fun e w' => e = .returned (.bool true) ∧ Below w.heap.size w w' := by
  have HW := Lib.hid (works4_any hP w)
  have HBad := Lib.hid (nil_Bad w)
  have HLen := Lib.hid (nil_Len w)
  have HByte := Lib.hid (nil_Byte w p)
  have HWord := Lib.hid (nil_Word w p)
  have HInt := Lib.hid (nil_Int w p)
  have HLong := Lib.hid (nil_Long w p)
  have HPart := Lib.hid (nil_Part w p n)
  have HWords := Lib.hid (nil_Words w p n)
  have HBytes := Lib.hid (nil_Bytes w)
  go_enter Try.func3, Try.ntmps3
  go_wp2_with fail
  refine (HBad.out).mono ?_
  rintro e w1 ⟨rfl, rfl⟩
  go_wp2_with fail
  refine (HLen.out).mono ?_
  rintro e w1 ⟨rfl, rfl⟩
  go_wp2_with fail
  refine (HByte.out).mono ?_
  rintro e w1 ⟨rfl, rfl⟩
  go_wp2_with fail
  refine (HWord.out).mono ?_
  rintro e w1 ⟨rfl, rfl⟩
  go_wp2_with fail
  refine (HInt.out).mono ?_
  rintro e w1 ⟨rfl, rfl⟩
  go_wp2_with fail
  refine (HLong.out).mono ?_
  rintro e w1 ⟨rfl, rfl⟩
  go_wp2_with fail
  refine (HPart.out).mono ?_
  rintro e w1 ⟨rfl, rfl⟩
  go_wp2_with fail
  refine (HWords.out).mono ?_
  rintro e w1 ⟨rfl, rfl⟩
  go_wp2_with fail
  refine (HBytes.out).mono ?_
  rintro e w1 ⟨rfl, rfl⟩
  go_wp2_with fail
  refine (HW.out).mono ?_
  rintro e w2 ⟨rfl, hb⟩
  go_wp2_with fail
  go_ret
  exact ⟨rfl, hb⟩
end Go.Proofs.Ytpnlopmmcclhiaa
