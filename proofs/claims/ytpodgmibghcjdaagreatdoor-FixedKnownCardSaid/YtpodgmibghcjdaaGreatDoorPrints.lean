/-
  FixedPrints: every number is printed as the document prints it, and what is printed is read as the number.
  Conditions: none beside the row's own (its listed variables of the library read as the program's text lays them; tied by the card).
-/
import Derived.Test.YtpodgmibghcjdaaGreatDoorWorks
import Derived.Test.YtpodgmibghcjdaaGreatDoorFmt
import Derived.Test.YtpodgmibghcjdaaGreatDoorTxt
import Derived.LaidSub
namespace Go.Proofs.YtpodgmibghcjdaaGreatDoor
open Go Go.RowKit

abbrev TabW (w : World) : Prop := Lib.TabIs Tryz.prog w "internal/strconv.uint64pow10" .u64 Lib.pow10Tab

theorem tab_lt {w : World} (h : TabW w) : 0 < w.heap.size :=
  World.block_lt_of_cell? w _ (Lib.TabIs.cell h (g := 0) (by kernel_rfl) 0 (by rw [Lib.pow10Tab_length]; omega))

theorem tab_of_laid {L : List (String × DataW Unit)} {W : World}
    (he : ((L.filter fun x => x.2.handleName?.isNone).filter fun x => x.1 == "internal/strconv.uint64pow10") = [("internal/strconv.uint64pow10", Lib.tabData .u64 Lib.pow10Tab)])
    (hL : laidMetH Tryz.prog L W) : TabW W := by
  have h1 := ((laidMetH_iff.1 hL).1).filter (fun x => x.1 == "internal/strconv.uint64pow10")
  rw [he] at h1
  exact Lib.tabIs_of_head (g := 0) (t := 112) (n := 20) (by kernel_rfl) (by kernel_rfl) Tryz.underlying112 Tryz.underlying46 (by kernel_rfl) (by kernel_rfl) h1

set_option maxHeartbeats 1000000 in
theorem prints_walk (n : Int) (hn : I64 n) (w : World) (hg : Glob w) (ht : TabW w) :
    Calls Tryz.prog 12 #[.int .i64 n] w fun e w' => e = .returned (.bool true) ∧ Below w.heap.size w w' := by
  obtain ⟨n1, n2⟩ := hn
  have h1 : ∀ w', Below w.heap.size w w' → Calls Tryz.prog 6 #[.int .i64 n] w' fun e w'' => e = .returned (.string ⟨(printL n).toArray⟩) ∧ Below w'.heap.size w' w'' := fun w' hb => by
    have ht' := tab_below hb (tab_lt ht) ht
    exact print_any n n1 n2 w' (fun w'' hb' => formatUint_any _ (by omega) w'' (tab_below hb' (tab_lt ht') ht'))
  obtain ⟨e2, e2'⟩ := read_printed n n1 n2
  have hlen : (printL n).length ≤ 40 := (split_parts (split_printed n n1 n2)).1
  have h2 := fun w hg => read_any ⟨(printL n).toArray⟩ (by simp [ByteArray.size]; omega) w hg (fun h => by
    rw [show (ByteArray.mk (printL n).toArray).data.toList = printL n by simp] at h
    exact absurd h e2')
  rw [show (ByteArray.mk (printL n).toArray).data.toList = printL n by simp] at h2
  simp only [e2] at h2
  have h3 := fun w => refPrint_any n n1 n2 w
  have h4 := fun w hg => works_any w hg
  obtain ⟨full, hF⟩ : ∃ full, full = printL n := ⟨_, rfl⟩
  rw [← hF] at h1 h2 h3
  have H1 := Lib.hid h1
  have H2 := Lib.hid h2
  have H3 := Lib.hid h3
  have H4 := Lib.hid h4
  clear h1 h2 h3 h4 e2 e2' hF hlen
  go_enter Tryz.func12, Tryz.ntmps12
  go_wp2_with fail
  refine (H1.out _ (Below.refl _ _)).mono ?_
  rintro e w1 ⟨rfl, hb1⟩
  go_wp2_with fail
  refine (H2.out _ (hg.below hb1)).mono ?_
  rintro e w2 ⟨rfl, hb2⟩
  have hb12 := hb1.trans (hb2.mono hb1.size)
  go_wp2_with fail
  refine (H3.out _).mono ?_
  rintro e w3 ⟨rfl, rfl⟩
  go_wp2_with fail
  refine (H4.out _ (hg.below hb12)).mono ?_
  rintro e w4 ⟨rfl, hb4⟩
  go_wp2_with fail
  go_ret
  exact ⟨rfl, hb12.trans (hb4.mono hb12.size)⟩
end Go.Proofs.YtpodgmibghcjdaaGreatDoor
