/-
  What the document says of a character: Class, Joining, Break, Cluster, Script, Wide, Space.
-/
import Derived.Test.YtbdhgjaoojimmaaDoorFind
namespace Go.Proofs.YtbdhgjaoojimmaaDoor
open Go Go.RowKit

/-- a rune's bounds -/
def I32 (r : Int) : Prop := -2147483648 ≤ r ∧ r ≤ 2147483647

/-- is it a letter of ASCII? -/
def letterB (r : Int) : Bool := (decide (65 ≤ r) && decide (r ≤ 90)) || (decide (97 ≤ r) && decide (r ≤ 122))

theorem letter_any (r : Int) (w : World) : Calls Tryd.prog 22 #[.int .i32 r] w fun e w' => e = .returned (.bool (letterB r)) ∧ w = w' := by
  rcases (show r < 65 ∨ (65 ≤ r ∧ r ≤ 90) ∨ (90 < r ∧ r < 97) ∨ (97 ≤ r ∧ r ≤ 122) ∨ 122 < r by omega) with h | h | h | h | h
  · have HE : Hid (letterB r = false) := Lib.hid (by unfold letterB; simp; omega)
    have b1 : ((65 : Int) ≤ r) = False := by simp; omega
    have b2 : ((97 : Int) ≤ r) = False := by simp; omega
    clear h
    go_enter Tryd.func22, Tryd.ntmps22
    go_wp2_with fail
    go_ret
    exact ⟨by rw [HE.out]; rfl, rfl⟩
  · have HE : Hid (letterB r = true) := Lib.hid (by unfold letterB; simp; omega)
    have b1 : ((65 : Int) ≤ r) = True := by simp; omega
    have b2 : (r ≤ 90) = True := by simp; omega
    clear h
    go_enter Tryd.func22, Tryd.ntmps22
    go_wp2_with fail
    go_ret
    exact ⟨by rw [HE.out]; rfl, rfl⟩
  · have HE : Hid (letterB r = false) := Lib.hid (by unfold letterB; simp; omega)
    have b1 : ((65 : Int) ≤ r) = True := by simp; omega
    have b2 : (r ≤ 90) = False := by simp; omega
    have b3 : ((97 : Int) ≤ r) = False := by simp; omega
    clear h
    go_enter Tryd.func22, Tryd.ntmps22
    go_wp2_with fail
    go_ret
    exact ⟨by rw [HE.out]; rfl, rfl⟩
  · have HE : Hid (letterB r = true) := Lib.hid (by unfold letterB; simp; omega)
    have b1 : ((65 : Int) ≤ r) = True := by simp; omega
    have b2 : (r ≤ 90) = False := by simp; omega
    have b3 : ((97 : Int) ≤ r) = True := by simp; omega
    have b4 : (r ≤ 122) = True := by simp; omega
    clear h
    go_enter Tryd.func22, Tryd.ntmps22
    go_wp2_with fail
    go_ret
    exact ⟨by rw [HE.out]; rfl, rfl⟩
  · have HE : Hid (letterB r = false) := Lib.hid (by unfold letterB; simp; omega)
    have b1 : ((65 : Int) ≤ r) = True := by simp; omega
    have b2 : (r ≤ 90) = False := by simp; omega
    have b3 : ((97 : Int) ≤ r) = True := by simp; omega
    have b4 : (r ≤ 122) = False := by simp; omega
    clear h
    go_enter Tryd.func22, Tryd.ntmps22
    go_wp2_with fail
    go_ret
    exact ⟨by rw [HE.out]; rfl, rfl⟩

/-- is it a Hangul syllable? -/
def sylB (r : Int) : Bool := decide (44032 ≤ r) && decide (r ≤ 55203)
/-- has it no last part? -/
def openB (r : Int) : Bool := decide ((r - 44032) % 28 = 0)

/-- a function of the document's that makes this table -/
def TabF (f : FuncId) (T : List (Int × Int × Int)) : Prop :=
  (∀ w, Calls Tryd.prog f #[] w fun e w' => e = .returned (.slice (some ⟨w.heap.size, 0, none⟩) T.length T.length) ∧ w' = w.alloc (.cells (cellsT T).toArray 49)) ∧ T.length ≤ 100000

/-- what the document says: Class -/
def classS (T : List (Int × Int × Int)) (r : Int) : Int := if letterB r then 1 else findL T r 1
/-- what the document says: Joining -/
def joiningS (T : List (Int × Int × Int)) (r : Int) : Int := if letterB r then 0 else findL T r 0
set_option maxRecDepth 20000 in
theorem refJoining_is (T : List (Int × Int × Int)) (hT : TabF 24 T) (r : Int) (w : World) : Calls Tryd.prog 14 #[.int .i32 r] w fun e w' => e = .returned (.int .u8 (joiningS T r)) ∧ Below w.heap.size w w' := by
  have hTT := Lib.hid hT.1
  have hlen := hT.2
  clear hT
  have hbn : Below w.heap.size w (w.alloc (.cells (cellsT T).toArray 49)) := (Below.refl _ w).alloc (Nat.le_refl _) _
  obtain ⟨B, hB⟩ : ∃ B, B = letterB r := ⟨_, rfl⟩
  have HL := Lib.hid (fun w => letter_any r w)
  rw [← hB] at HL
  obtain ⟨X, hX⟩ : ∃ X, X = joiningS T r := ⟨_, rfl⟩
  have HX : Hid (X = if B then 0 else findL T r 0) := Lib.hid (by rw [hX, hB]; rfl)
  rw [← hX]
  clear hX hB
  cases B with
  | true =>
    go_enter Tryd.func14, Tryd.ntmps14
    go_wp2_with fail
    refine (HL.out _).mono ?_
    rintro e w0 ⟨rfl, rfl⟩
    go_wp2_with fail
    go_ret
    exact ⟨by rw [HX.out]; rfl, Below.refl _ _⟩
  | false =>
    have HF : Hid (findL T r 0 = X) := Lib.hid (by rw [HX.out]; rfl)
    go_enter Tryd.func14, Tryd.ntmps14
    go_wp2_with fail
    refine (HL.out _).mono ?_
    rintro e w0 ⟨rfl, rfl⟩
    go_wp2_with fail
    refine (hTT.out _).mono ?_
    rintro e w1 ⟨rfl, rfl⟩
    go_wp2_with fail
    refine (refFind_any T w.heap.size r 0 _ hlen (table_new w _ _)).mono ?_
    rintro e w2 ⟨rfl, rfl⟩
    rw [HF.out]
    go_wp2_with fail
    go_ret
    exact ⟨rfl, hbn⟩

/-- what the document says: Script -/
def scriptS (T : List (Int × Int × Int)) (r : Int) : Int := findL T r 0
/-- what the document says: Wide -/
def wideS (T : List (Int × Int × Int)) (r : Int) : Int := findL T r 0
/-- what the document says: Space -/
def spaceS (T : List (Int × Int × Int)) (r : Int) : Int := findL T r 0
/-- what the document says: Break -/
def breakS (T : List (Int × Int × Int)) (r : Int) : Int := if letterB r then 0 else if sylB r then (if openB r then 36 else 37) else findL T r 0
/-- what the document says: Cluster -/
def clusterS (T : List (Int × Int × Int)) (r : Int) : Int := if letterB r then 0 else if sylB r then (if openB r then 11 else 12) else findL T r 0
end Go.Proofs.YtbdhgjaoojimmaaDoor
