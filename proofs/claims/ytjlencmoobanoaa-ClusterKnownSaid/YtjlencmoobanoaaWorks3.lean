/-
  The short call that stands in each statement of layer 3.
-/
import Derived.Test.YtjlencmoobanoaaParted
import Derived.Test.YtjlencmoobanoaaSameI
namespace Go.Proofs.Ytjlencmoobanoaa
open Go Go.RowKit

theorem tabD : TabC (tableOf Try.f27) := ⟨cls_ok, fun r w => by
    rw [cls_int cls_ok, ← cluster_eq]; exact cluster_any r w, fun r hr w => by
    rw [cls_int cls_ok]; exact refCluster_is _ tabClusters r hr w⟩

theorem runes_new (w : World) (l : List Int) (t : TypeId) (hlen : l.length ≤ 1000000) : RunesZ (w.alloc (.cells (l.map fun d : Int => Value.int .i32 d).toArray t)) (.slice (some ⟨w.heap.size, 0, none⟩) l.length l.length) l := by
  refine ⟨_, _, rfl, Nat.le_refl _, by omega, fun _ => ⟨w.heap.size, 0, rfl, heap_more _ _, fun j hj => ?_⟩⟩
  rw [Nat.zero_add, cell_of_row _ w.heap.size j _ _ _ (heap_alloc_new w _)]
  simp [hj]

theorem ints_new (w : World) (l : List Nat) (t : TypeId) (hlen : l.length ≤ 1000000) : IntsR (w.alloc (.cells (l.map fun d : Nat => Value.int .i64 (d : Int)).toArray t)) (.slice (some ⟨w.heap.size, 0, none⟩) l.length l.length) l := by
  refine ⟨_, _, rfl, Nat.le_refl _, by omega, fun _ => ⟨w.heap.size, rfl, heap_more _ _, fun j hj => ?_⟩⟩
  rw [cell_of_row _ w.heap.size j _ _ _ (heap_alloc_new w _)]
  simp [hj]

set_option maxRecDepth 20000 in
theorem works3_any (w : World) : Calls Try.prog 8 #[] w fun e w' => e = .returned (.bool true) ∧ Below w.heap.size w w' := by
  have h1 := fun (w : World) v hv => bounds_any _ tabD [97, 769, 98, 13, 10] v w hv (by decide)
  have e1 : boundsL ([97, 769, 98, 13, 10].map (clsN (tableOf Try.f27))) = [0, 2, 3] := by kernel_rfl
  simp only [e1] at h1
  have h2 := fun (g : Nat) (w : World) hc hg => parted_in _ tabD [97, 98] g 0 2 2 rfl (by decide) (by decide) w hc hg 1 (by decide) (by decide) (by decide)
  have e2 : docPre (([97, 98].map (clsN (tableOf Try.f27))).take 1).reverse (([97, 98].map (clsN (tableOf Try.f27))).getD 1 0) = true := by kernel_rfl
  simp only [e2] at h2
  have h3 := fun (g : Nat) (w : World) hc hg => parted_in _ tabD [97, 769] g 0 2 2 rfl (by decide) (by decide) w hc hg 1 (by decide) (by decide) (by decide)
  have e3 : docPre (([97, 769].map (clsN (tableOf Try.f27))).take 1).reverse (([97, 769].map (clsN (tableOf Try.f27))).getD 1 0) = false := by kernel_rfl
  simp only [e3] at h3
  have h4 := fun (a b : Value) (w : World) ha hb => sameI_any [0, 2, 3] a b w ha hb (by decide)
  have H1 := Lib.hid h1
  have H2 := Lib.hid h2
  have H3 := Lib.hid h3
  have H4 := Lib.hid h4
  clear h1 h2 h3 h4 e1 e2 e3
  go_enter Try.func8, Try.ntmps8
  go_wp2_with fail
  have hb0 := fun o => (Below.refl w.heap.size w).alloc (Nat.le_refl _) o
  refine (H1.out _ _ (runes_new w [97, 769, 98, 13, 10] _ (by decide))).mono ?_
  rintro e w1 ⟨hb1, r, rfl, how⟩
  have hb01 := (hb0 _).trans (hb1.mono (hb0 _).size)
  go_wp2_with fail
  have ha1 := fun o => (Below.refl w1.heap.size w1).alloc (Nat.le_refl _) o
  refine (H4.out _ _ _ (how.read.below (ha1 _)) (ints_new w1 [0, 2, 3] _ (by decide))).mono ?_
  rintro e w2 ⟨rfl, hb2⟩
  have hb02 := hb01.trans (((ha1 _).trans (hb2.mono (ha1 _).size)).mono hb01.size)
  clear how hb0 hb1 hb2 ha1 hb01
  go_wp2_with fail
  have ha2 := fun o => (Below.refl w2.heap.size w2).alloc (Nat.le_refl _) o
  refine (H2.out w2.heap.size _ ?_ (heap_more _ _)).mono ?_
  · intro j hj
    obtain ⟨A, c, e, _, _, hx⟩ := runes_new w2 [97, 98] _ (by decide)
    obtain ⟨g, off, hA, _, hc⟩ := hx (by simp)
    injection e with e _ _
    rw [hA] at e
    injection e with e
    injection e with e1 e2
    subst e1; subst e2
    exact hc j hj
  rintro e w3 ⟨rfl, hb3⟩
  have hb03 := hb02.trans (((ha2 _).trans (hb3.mono (ha2 _).size)).mono hb02.size)
  clear hb3 ha2 hb02
  go_wp2_with fail
  have ha3 := fun o => (Below.refl w3.heap.size w3).alloc (Nat.le_refl _) o
  refine (H3.out w3.heap.size _ ?_ (heap_more _ _)).mono ?_
  · intro j hj
    obtain ⟨A, c, e, _, _, hx⟩ := runes_new w3 [97, 769] _ (by decide)
    obtain ⟨g, off, hA, _, hc⟩ := hx (by simp)
    injection e with e _ _
    rw [hA] at e
    injection e with e
    injection e with e1 e2
    subst e1; subst e2
    exact hc j hj
  rintro e w4 ⟨rfl, hb4⟩
  have hb04 := hb03.trans (((ha3 _).trans (hb4.mono (ha3 _).size)).mono hb03.size)
  clear hb4 ha3 hb03
  go_wp2_with fail
  go_ret
  exact ⟨rfl, hb04⟩
end Go.Proofs.Ytjlencmoobanoaa
