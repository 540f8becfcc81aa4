/-
  The chapter's first examples.
-/
import Derived.Test.YtlpnikolnohcaaaJnF
import Derived.Test.YtlpnikolnohcaaaTabF
namespace Go.Proofs.Ytlpnikolnohcaaa
open Go Go.RowKit

/-- the font of the example -/
def exB : List Int := [0, 1, 0, 0, 0, 1, 0, 16, 0, 0, 0, 0, 97, 98, 49, 50, 1, 2, 3, 0, 0, 0, 0, 28, 0, 0, 0, 3, 1, 2, 3, 0]

theorem ex_join : joinS [[97, 98, 49, 50]] [[1, 2, 3]] = (exB, 0) := by kernel_rfl
theorem ex_tabs : tablesS exB = ([([97, 98, 49, 50], 28, 3)], 0) := by kernel_rfl

set_option maxHeartbeats 8000000 in
set_option maxRecDepth 20000 in
theorem works5_any (w : World) : Calls Try.prog 8 #[] w fun e w' => e = .returned (.bool true) ∧ Below w.heap.size w w' := by
  have HJ : Hid (∀ wx vt vb, TagsZ wx vt [[97, 98, 49, 50]] → BodsZ wx vb [[1, 2, 3]] → Calls Try.prog 13 #[vt, vb] wx fun e w' => Below wx.heap.size wx w' ∧ ∃ r, e = .returned (.tuple #[r, .int .i64 0]) ∧ NumZ .u8 w' r exB ∧ (∀ n c, r = .slice none n c → n = 0 ∧ c = 0)) := Lib.hid (fun wx vt vb h1 h2 => by
    have h := joinP_any wx vt vb _ _ h1 h2 (by decide) (by decide)
    rw [ex_join] at h
    exact h)
  have hexb : AllB exB := fun x hx => by simp [exB] at hx; omega
  have HT : Hid (∀ wx v, NumZ .u8 wx v exB → (∀ n c, v = .slice none n c → n = 0 ∧ c = 0) → Calls Try.prog 9 #[v] wx fun e w' => Below wx.heap.size wx w' ∧ ∃ r, e = .returned (.tuple #[r, .int .i64 0]) ∧ OwnT wx.heap.size w' r [([97, 98, 49, 50], 28, 3)]) := Lib.hid (fun wx v h1 h2 => by
    have h := tablesP_any wx v exB h1 h2 hexb (by decide)
    rw [ex_tabs] at h
    exact h)
  have HSB : Hid (∀ w a b, NumZ .u8 w a exB → NumZ .u8 w b exB → Calls Try.prog 12 #[a, b] w fun e w' => e = .returned (.bool true) ∧ w = w') := Lib.hid (fun w a b ha hb => sameB_any _ a b w ha hb)
  obtain ⟨w1, hw1⟩ : ∃ w1, w.alloc (.cells #[.int .u8 97, .int .u8 98, .int .u8 49, .int .u8 50] 39) = w1 := ⟨_, rfl⟩
  obtain ⟨w2, hw2⟩ : ∃ w2, w1.alloc (.cells #[.int .u8 1, .int .u8 2, .int .u8 3] 5) = w2 := ⟨_, rfl⟩
  obtain ⟨w3, hw3⟩ : ∃ w3, w2.alloc (.cells #[.slice (some ⟨w1.heap.size, 0, none⟩) 3 3] 22) = w3 := ⟨_, rfl⟩
  have hs1 : w1.heap.size = w.heap.size + 1 := by rw [← hw1, heap_plus]
  have hs2 : w2.heap.size = w.heap.size + 2 := by rw [← hw2, heap_plus, hs1]
  have hs3 : w3.heap.size = w.heap.size + 3 := by rw [← hw3, heap_plus, hs2]
  have HB3 : Hid (Below w.heap.size w w3) := Lib.hid (by rw [← hw3, ← hw2, ← hw1]; exact below_alloc _ (below_alloc _ (below_alloc _ (Below.refl _ w))))
  have HTZ : Hid (TagsZ w3 (.slice (some ⟨w.heap.size, 0, none⟩) 1 1) [[97, 98, 49, 50]]) := Lib.hid (by
    refine ⟨_, _, rfl, Nat.le_refl _, by decide, fun t ht => ?_, fun _ => ⟨w.heap.size, 0, rfl, by omega, fun i j hi hj => ?_⟩⟩
    · obtain rfl := List.mem_singleton.1 ht
      exact ⟨rfl, fun x hx => by simp at hx; omega⟩
    · obtain rfl : i = 0 := by simpa using hi
      rw [← hw3, ← hw2]
      refine cells_alloc _ (cells_alloc _ ?_)
      rw [← hw1, cell_of_row _ w.heap.size _ _ _ _ (heap_alloc_new w _)]
      match j, hj with
      | 0, _ => rfl
      | 1, _ => rfl
      | 2, _ => rfl
      | 3, _ => rfl)
  have HBZ : Hid (BodsZ w3 (.slice (some ⟨w2.heap.size, 0, none⟩) 1 1) [[1, 2, 3]]) := Lib.hid (by
    refine ⟨_, _, rfl, Nat.le_refl _, by decide, fun t ht => ?_, fun _ => ⟨w2.heap.size, 0, rfl, by omega, fun i hi => ?_⟩⟩
    · obtain rfl := List.mem_singleton.1 ht
      exact fun x hx => by simp at hx; omega
    · obtain rfl : i = 0 := by simpa using hi
      refine ⟨.slice (some ⟨w1.heap.size, 0, none⟩) 3 3, ?_, ?_, fun n c h => by cases h⟩
      · rw [← hw3, cell_of_row _ w2.heap.size _ _ _ _ (heap_alloc_new w2 _)]; rfl
      · have h := num_new .u8 w1 [1, 2, 3] 5 (by decide)
        have e : w1.alloc (.cells ([1, 2, 3].map fun d : Int => Value.int .u8 d).toArray 5) = w2 := hw2
        rw [e] at h
        have h2 := h.alloc (.cells #[.slice (some ⟨w1.heap.size, 0, none⟩) 3 3] 22)
        rw [hw3] at h2
        exact h2)
  clear hexb hs1 hs2 hs3
  go_enter Try.func8, Try.ntmps8
  go_wp2_with fail
  refine (HJ.out _ _ _ HTZ.out HBZ.out).mono ?_
  rintro e w4 ⟨hb4, rb, rfl, hnz, hnn⟩
  have HB4 := Lib.hid (HB3.out.trans (hb4.mono HB3.out.size))
  have HNZ := Lib.hid hnz
  have HNN := Lib.hid hnn
  clear hb4 hnz hnn hw1 hw2 hw3
  go_wp2_with fail
  refine (HT.out _ _ HNZ.out HNN.out).mono ?_
  rintro e w5 ⟨hb5, rt, rfl, how⟩
  have HB5 := Lib.hid (HB4.out.trans (hb5.mono HB4.out.size))
  have HNZ5 := Lib.hid (HNZ.out.below hb5)
  have HOW := Lib.hid how
  obtain ⟨AT, cT, hrt, _, _, hcs⟩ := how.read (fun t ht => by obtain rfl := List.mem_singleton.1 ht; rfl)
  obtain ⟨gT, rfl, hgT, hcs⟩ := hcs (by simp)
  subst hrt
  have k4 := hcs 0 4 (by decide) (by decide)
  have k5 := hcs 0 5 (by decide) (by decide)
  simp only [Nat.mul_zero, Nat.zero_add, List.getElem_cons_zero, cellsT] at k4 k5
  have k4' : w5.cell? ⟨gT, 4, none⟩ = some (.int .i64 28) := k4
  have k5' : w5.cell? ⟨gT, 5, none⟩ = some (.int .i64 3) := k5
  clear hb5 k4 k5 hcs how
  go_wp2_with fail
  refine (HSB.out _ _ _ (HNZ5.out.alloc _) (num_new .u8 w5 exB _ (by decide))).mono ?_
  rintro e w6 ⟨rfl, rfl⟩
  have k4 := cellsAt_below k4' (below_alloc (.cells (exB.map fun d : Int => Value.int .u8 d).toArray 5) (Below.refl w5.heap.size w5))
  have k5 := cellsAt_below k5' (below_alloc (.cells (exB.map fun d : Int => Value.int .u8 d).toArray 5) (Below.refl w5.heap.size w5))
  have HBF := Lib.hid (HB5.out.alloc HB5.out.size (.cells (exB.map fun d : Int => Value.int .u8 d).toArray 5))
  clear k4' k5' hgT
  go_wp2_with fail
  go_ret
  exact ⟨rfl, HBF.out⟩
end Go.Proofs.Ytlpnikolnohcaaa
