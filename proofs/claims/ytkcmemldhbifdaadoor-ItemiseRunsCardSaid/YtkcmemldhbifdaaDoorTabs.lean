/-
  Joined.
-/
import Derived.Test.YtkcmemldhbifdaaDoorSim
namespace Go.Proofs.YtkcmemldhbifdaaDoor
open Go Go.RowKit
set_option maxRecDepth 100000 in
theorem refClasses_any (w : World) : Calls Tryd.prog 25 #[] w fun e w' => e = .returned (.slice (some ⟨w.heap.size, 0, none⟩) (tableOf Tryd.f25).length (tableOf Tryd.f25).length) ∧ w' = w.alloc (.cells (cellsT (tableOf Tryd.f25)).toArray 72) := by
  go_enter Tryd.func25, Tryd.ntmps25
  refine simV_wp _ 0 _ _ (w.alloc (.cells (cellsT (tableOf Tryd.f25)).toArray 72)) (.slice (some ⟨w.heap.size, 0, none⟩) (tableOf Tryd.f25).length (tableOf Tryd.f25).length) rfl (by kernel_rfl) ⟨rfl, rfl⟩
set_option maxRecDepth 100000 in
theorem refScripts_any (w : World) : Calls Tryd.prog 23 #[] w fun e w' => e = .returned (.slice (some ⟨w.heap.size, 0, none⟩) (tableOf Tryd.f23).length (tableOf Tryd.f23).length) ∧ w' = w.alloc (.cells (cellsT (tableOf Tryd.f23)).toArray 72) := by
  go_enter Tryd.func23, Tryd.ntmps23
  refine simV_wp _ 0 _ _ (w.alloc (.cells (cellsT (tableOf Tryd.f23)).toArray 72)) (.slice (some ⟨w.heap.size, 0, none⟩) (tableOf Tryd.f23).length (tableOf Tryd.f23).length) rfl (by kernel_rfl) ⟨rfl, rfl⟩
end Go.Proofs.YtkcmemldhbifdaaDoor

namespace Go.Proofs.YtkcmemldhbifdaaDoor
open Go Go.RowKit
def letterB (r : Int) : Bool := (decide (65 ≤ r) && decide (r ≤ 90)) || (decide (97 ≤ r) && decide (r ≤ 122))
theorem letter_any (r : Int) (w : World) : Calls Tryd.prog 24 #[.int .i32 r] w fun e w' => e = .returned (.bool (letterB r)) ∧ w = w' := by
  rcases (show r < 65 ∨ (65 ≤ r ∧ r ≤ 90) ∨ (90 < r ∧ r < 97) ∨ (97 ≤ r ∧ r ≤ 122) ∨ 122 < r by omega) with h | h | h | h | h
  · have HE : Hid (letterB r = false) := Lib.hid (by unfold letterB; simp; omega)
    have b1 : ((65 : Int) ≤ r) = False := by simp; omega
    have b2 : ((97 : Int) ≤ r) = False := by simp; omega
    clear h
    go_enter Tryd.func24, Tryd.ntmps24
    go_wp2_with fail
    go_ret
    exact ⟨by rw [HE.out]; rfl, rfl⟩
  · have HE : Hid (letterB r = true) := Lib.hid (by unfold letterB; simp; omega)
    have b1 : ((65 : Int) ≤ r) = True := by simp; omega
    have b2 : (r ≤ 90) = True := by simp; omega
    clear h
    go_enter Tryd.func24, Tryd.ntmps24
    go_wp2_with fail
    go_ret
    exact ⟨by rw [HE.out]; rfl, rfl⟩
  · have HE : Hid (letterB r = false) := Lib.hid (by unfold letterB; simp; omega)
    have b1 : ((65 : Int) ≤ r) = True := by simp; omega
    have b2 : (r ≤ 90) = False := by simp; omega
    have b3 : ((97 : Int) ≤ r) = False := by simp; omega
    clear h
    go_enter Tryd.func24, Tryd.ntmps24
    go_wp2_with fail
    go_ret
    exact ⟨by rw [HE.out]; rfl, rfl⟩
  · have HE : Hid (letterB r = true) := Lib.hid (by unfold letterB; simp; omega)
    have b1 : ((65 : Int) ≤ r) = True := by simp; omega
    have b2 : (r ≤ 90) = False := by simp; omega
    have b3 : ((97 : Int) ≤ r) = True := by simp; omega
    have b4 : (r ≤ 122) = True := by simp; omega
    clear h
    go_enter Tryd.func24, Tryd.ntmps24
    go_wp2_with fail
    go_ret
    exact ⟨by rw [HE.out]; rfl, rfl⟩
  · have HE : Hid (letterB r = false) := Lib.hid (by unfold letterB; simp; omega)
    have b1 : ((65 : Int) ≤ r) = True := by simp; omega
    have b2 : (r ≤ 90) = False := by simp; omega
    have b3 : ((97 : Int) ≤ r) = True := by simp; omega
    have b4 : (r ≤ 122) = False := by simp; omega
    clear h
    go_enter Tryd.func24, Tryd.ntmps24
    go_wp2_with fail
    go_ret
    exact ⟨by rw [HE.out]; rfl, rfl⟩
def sylB (r : Int) : Bool := decide (44032 ≤ r) && decide (r ≤ 55203)
def openB (r : Int) : Bool := decide ((r - 44032) % 28 = 0)
def TabF (f : FuncId) (T : List (Int × Int × Int)) : Prop :=
  (∀ w, Calls Tryd.prog f #[] w fun e w' => e = .returned (.slice (some ⟨w.heap.size, 0, none⟩) T.length T.length) ∧ w' = w.alloc (.cells (cellsT T).toArray 72)) ∧ T.length ≤ 100000
def classS (T : List (Int × Int × Int)) (r : Int) : Int := if letterB r then 1 else findL T r 1
set_option maxRecDepth 20000 in
theorem refClass_is (T : List (Int × Int × Int)) (hT : TabF 25 T) (r : Int) (w : World) : Calls Tryd.prog 14 #[.int .i32 r] w fun e w' => e = .returned (.int .u8 (classS T r)) ∧ Below w.heap.size w w' := by
  have hTT := Lib.hid hT.1
  have hlen := hT.2
  clear hT
  have hbn : Below w.heap.size w (w.alloc (.cells (cellsT T).toArray 72)) := (Below.refl _ w).alloc (Nat.le_refl _) _
  obtain ⟨B, hB⟩ : ∃ B, B = letterB r := ⟨_, rfl⟩
  have HL := Lib.hid (fun w => letter_any r w)
  rw [← hB] at HL
  obtain ⟨X, hX⟩ : ∃ X, X = classS T r := ⟨_, rfl⟩
  have HX : Hid (X = if B then 1 else findL T r 1) := Lib.hid (by rw [hX, hB]; rfl)
  rw [← hX]
  clear hX hB
  cases B with
  | true =>
    go_enter Tryd.func14, Tryd.ntmps14
    go_wp2_with fail
    refine (HL.out _).mono ?_
    rintro e w0 ⟨rfl, rfl⟩
    go_wp2_with fail
    go_ret
    exact ⟨by rw [HX.out]; rfl, Below.refl _ _⟩
  | false =>
    have HF : Hid (findL T r 1 = X) := Lib.hid (by rw [HX.out]; rfl)
    go_enter Tryd.func14, Tryd.ntmps14
    go_wp2_with fail
    refine (HL.out _).mono ?_
    rintro e w0 ⟨rfl, rfl⟩
    go_wp2_with fail
    refine (hTT.out _).mono ?_
    rintro e w1 ⟨rfl, rfl⟩
    go_wp2_with fail
    refine (refFind_any T w.heap.size r 1 _ hlen (table_new w _ _)).mono ?_
    rintro e w2 ⟨rfl, rfl⟩
    rw [HF.out]
    go_wp2_with fail
    go_ret
    exact ⟨rfl, hbn⟩
def scriptS (T : List (Int × Int × Int)) (r : Int) : Int := findL T r 0
set_option maxRecDepth 20000 in
theorem refScript_is (T : List (Int × Int × Int)) (hT : TabF 23 T) (r : Int) (w : World) : Calls Tryd.prog 13 #[.int .i32 r] w fun e w' => e = .returned (.int .u8 (scriptS T r)) ∧ Below w.heap.size w w' := by
  have hTT := Lib.hid hT.1
  have hlen := hT.2
  clear hT
  have hbn : Below w.heap.size w (w.alloc (.cells (cellsT T).toArray 72)) := (Below.refl _ w).alloc (Nat.le_refl _) _
  obtain ⟨X, hX⟩ : ∃ X, X = scriptS T r := ⟨_, rfl⟩
  have HX : Hid (findL T r 0 = X) := Lib.hid (by rw [hX]; rfl)
  rw [← hX]
  clear hX
  go_enter Tryd.func13, Tryd.ntmps13
  go_wp2_with fail
  refine (hTT.out _).mono ?_
  rintro e w1 ⟨rfl, rfl⟩
  go_wp2_with fail
  refine (refFind_any T w.heap.size r 0 _ hlen (table_new w _ _)).mono ?_
  rintro e w2 ⟨rfl, rfl⟩
  rw [HX.out]
  go_wp2_with fail
  go_ret
  exact ⟨rfl, hbn⟩
end Go.Proofs.YtkcmemldhbifdaaDoor

namespace Go.Proofs.YtkcmemldhbifdaaDoor
open Go Go.RowKit
theorem lenClasses : (tableOf Tryd.f25).length ≤ 100000 := of_decide_eq_true (by kernel_rfl)
theorem tabClasses : TabF 25 (tableOf Tryd.f25) := ⟨fun w => refClasses_any w, lenClasses⟩
theorem lenScripts : (tableOf Tryd.f23).length ≤ 100000 := of_decide_eq_true (by kernel_rfl)
theorem tabScripts : TabF 23 (tableOf Tryd.f23) := ⟨fun w => refScripts_any w, lenScripts⟩
end Go.Proofs.YtkcmemldhbifdaaDoor
