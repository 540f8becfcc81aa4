/-
  sfnt.Head: the face.
-/
import Derived.Test.YtlpnikolnohcaaaHeadP
namespace Go.Proofs.Ytlpnikolnohcaaa
open Go Go.RowKit

set_option maxHeartbeats 4000000 in
set_option maxRecDepth 20000 in
theorem headP_any (w : World) (r : Value) (l : List Int) (hr : RdZ w r l) (hA : AllB l) :
    Calls Try.prog 15 #[r] w fun e w' => Below w.heap.size w w' ∧ e = .returned (.tuple #[.int .u16 (headS l).1, .int .i64 (headS l).2]) := by
  have hmf : ∀ (fn : Fn) (first cap : Array Value) (W : World), (Instr.makeFunc fn first cap).run Try.prog W = .ok (.func fn first cap) W := fun _ _ _ _ => rfl
  have HU := Lib.hid (unitsOf_any (w.alloc (.cells #[.int .i64 0] 25)) r l (hr.below (below_alloc _ (Below.refl _ w))) hA)
  obtain ⟨q, hq⟩ : ∃ q, q = headS l := ⟨_, rfl⟩
  rw [← hq]
  unfold headS at hq
  have HQ := Lib.hid hq
  clear hr hA hq
  go_enter_defers Try.func15, Try.ntmps15
  go_wp2_with fail
  refine (HU.out).mono ?_
  rintro e w1 ⟨hb, ⟨hbd, rfl⟩ | ⟨hbd, rfl⟩⟩
  · obtain ⟨hc, hz, hw⟩ := face_var hb
    have HB := Lib.hid hw
    have HC := Lib.hid hc
    have HZ := Lib.hid hz
    have HV : Hid (q = (numAt l 18 2, 0)) := Lib.hid (by rw [HQ.out, hbd]; rfl)
    clear hb hbd hw
    go_wp2_with fail
    refine leaves_cons (f := 37) (args := #[.pointer (some ⟨w.heap.size, 0, none⟩)]) (by simp) (by simp [go_sem]) ?_
    refine (idleHead ⟨w.heap.size, 0, none⟩ 0 _ (World.cell?_setCell_same _ _ _ HC.out) (by rw [World.frozen?_setCell]; exact HZ.out)).mono ?_
    rintro e u' w2 ⟨rfl, rfl, hw2⟩
    have hcell : w2.cell? ⟨w.heap.size, 0, none⟩ = some (.int .i64 0) := by rw [hw2]; exact World.cell?_setCell_same _ _ _ (World.cell?_setCell_same _ _ _ HC.out)
    have hbel : Below w.heap.size w w2 := by rw [hw2]; exact (HB.out.setCell (p := ⟨w.heap.size, 0, none⟩) (Nat.le_refl _) _).setCell (p := ⟨w.heap.size, 0, none⟩) (Nat.le_refl _) _
    clear hw2
    simp [Leaves, settle, results, Try.results15, go_sem, hcell]
    exact ⟨hbel, by rw [HV.out], by rw [HV.out]⟩
  · obtain ⟨hc, hz, hw⟩ := face_var hb
    have HB := Lib.hid hw
    have HV : Hid (q = (0, 50)) := Lib.hid (by rw [HQ.out, hbd]; rfl)
    refine leaves_cons (f := 37) (args := #[.pointer (some ⟨w.heap.size, 0, none⟩)]) (by simp) (by simp [go_sem]) ?_
    refine (catchHead ⟨w.heap.size, 0, none⟩ 0 50 [] _ hc hz).mono ?_
    rintro e u' w2 ⟨rfl, rfl, hw2⟩
    have hcell : w2.cell? ⟨w.heap.size, 0, none⟩ = some (.int .i64 50) := by rw [hw2]; exact World.cell?_setCell_same _ _ _ hc
    have hbel : Below w.heap.size w w2 := by rw [hw2]; exact HB.out.setCell (p := ⟨w.heap.size, 0, none⟩) (Nat.le_refl _) _
    clear hw2 hc hz hb hw
    simp [Leaves, settle, results, Try.results15, go_sem, hcell]
    exact ⟨hbel, by rw [HV.out], by rw [HV.out]⟩
end Go.Proofs.Ytlpnikolnohcaaa
