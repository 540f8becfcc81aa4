/-
  What the document says of a character: Class, Joining, Break, Cluster, Script, Wide, Space.
-/
import Derived.Test.YtdbimchiecdkoaaGreatSim
namespace Go.Proofs.YtdbimchiecdkoaaGreat
open Go Go.RowKit
def I32 (r : Int) : Prop := -2147483648 ≤ r ∧ r ≤ 2147483647
def letterB (r : Int) : Bool := (decide (65 ≤ r) && decide (r ≤ 90)) || (decide (97 ≤ r) && decide (r ≤ 122))
theorem letter_any (r : Int) (w : World) : Calls Tryz.prog 19 #[.int .i32 r] w fun e w' => e = .returned (.bool (letterB r)) ∧ w = w' := by
  rcases (show r < 65 ∨ (65 ≤ r ∧ r ≤ 90) ∨ (90 < r ∧ r < 97) ∨ (97 ≤ r ∧ r ≤ 122) ∨ 122 < r by omega) with h | h | h | h | h
  · have HE : Hid (letterB r = false) := Lib.hid (by unfold letterB; simp; omega)
    have b1 : ((65 : Int) ≤ r) = False := by simp; omega
    have b2 : ((97 : Int) ≤ r) = False := by simp; omega
    clear h
    go_enter Tryz.func19, Tryz.ntmps19
    go_wp2_with fail
    go_ret
    exact ⟨by rw [HE.out]; rfl, rfl⟩
  · have HE : Hid (letterB r = true) := Lib.hid (by unfold letterB; simp; omega)
    have b1 : ((65 : Int) ≤ r) = True := by simp; omega
    have b2 : (r ≤ 90) = True := by simp; omega
    clear h
    go_enter Tryz.func19, Tryz.ntmps19
    go_wp2_with fail
    go_ret
    exact ⟨by rw [HE.out]; rfl, rfl⟩
  · have HE : Hid (letterB r = false) := Lib.hid (by unfold letterB; simp; omega)
    have b1 : ((65 : Int) ≤ r) = True := by simp; omega
    have b2 : (r ≤ 90) = False := by simp; omega
    have b3 : ((97 : Int) ≤ r) = False := by simp; omega
    clear h
    go_enter Tryz.func19, Tryz.ntmps19
    go_wp2_with fail
    go_ret
    exact ⟨by rw [HE.out]; rfl, rfl⟩
  · have HE : Hid (letterB r = true) := Lib.hid (by unfold letterB; simp; omega)
    have b1 : ((65 : Int) ≤ r) = True := by simp; omega
    have b2 : (r ≤ 90) = False := by simp; omega
    have b3 : ((97 : Int) ≤ r) = True := by simp; omega
    have b4 : (r ≤ 122) = True := by simp; omega
    clear h
    go_enter Tryz.func19, Tryz.ntmps19
    go_wp2_with fail
    go_ret
    exact ⟨by rw [HE.out]; rfl, rfl⟩
  · have HE : Hid (letterB r = false) := Lib.hid (by unfold letterB; simp; omega)
    have b1 : ((65 : Int) ≤ r) = True := by simp; omega
    have b2 : (r ≤ 90) = False := by simp; omega
    have b3 : ((97 : Int) ≤ r) = True := by simp; omega
    have b4 : (r ≤ 122) = False := by simp; omega
    clear h
    go_enter Tryz.func19, Tryz.ntmps19
    go_wp2_with fail
    go_ret
    exact ⟨by rw [HE.out]; rfl, rfl⟩
def sylB (r : Int) : Bool := decide (44032 ≤ r) && decide (r ≤ 55203)
def openB (r : Int) : Bool := decide ((r - 44032) % 28 = 0)
set_option maxRecDepth 20000 in
theorem syllable_any (r : Int) (hr : I32 r) (w : World) : Calls Tryz.prog 18 #[.int .i32 r] w fun e w' => (∃ b, e = .returned (.tuple #[.bool (sylB r), .bool b]) ∧ (sylB r = true → b = openB r)) ∧ w = w' := by
  obtain ⟨h1, h2⟩ := hr
  rcases (show r < 44032 ∨ (44032 ≤ r ∧ r ≤ 55203) ∨ 55203 < r by omega) with h | h | h
  · have HE : Hid (sylB r = false) := Lib.hid (by unfold sylB; simp; omega)
    have b1 : ((44032 : Int) ≤ r) = False := by simp; omega
    obtain ⟨y, hy⟩ : ∃ y, y = IntKind.i32.wrap (r - 44032) := ⟨_, rfl⟩
    have q1 : IntKind.i32.wrap (r - 44032) = y := hy.symm
    clear h h1 h2 hy
    go_enter Tryz.func18, Tryz.ntmps18
    go_wp2_with fail
    go_ret2
    refine ⟨⟨_, by rw [HE.out]; rfl, fun h => ?_⟩, rfl⟩
    rw [HE.out] at h; cases h
  · have HE : Hid (sylB r = true) := Lib.hid (by unfold sylB; simp; omega)
    have b1 : ((44032 : Int) ≤ r) = True := by simp; omega
    have b2 : (r ≤ 55203) = True := by simp; omega
    obtain ⟨y, hy⟩ : ∃ y, y = r - 44032 := ⟨_, rfl⟩
    have q1 : IntKind.i32.wrap (r - 44032) = y := by rw [IntKind.wrap_i32]; omega
    have q0 : r - 44032 = y := hy.symm
    have hy0 : 0 ≤ y := by omega
    have q3 : IntKind.i32.wrap y = y := by rw [IntKind.wrap_i32]; omega
    have HY := Lib.hid hy
    obtain ⟨z, hz⟩ : ∃ z, z = y % 28 := ⟨_, rfl⟩
    have q2 : y % 28 = z := hz.symm
    have HZ := Lib.hid hz
    clear h h1 h2 hy hz
    go_enter Tryz.func18, Tryz.ntmps18
    go_wp2_with fail
    go_ret2
    refine ⟨⟨_, by rw [HE.out]; rfl, fun _ => ?_⟩, rfl⟩
    unfold openB
    rw [← HY.out, ← HZ.out]
    rfl
  · have HE : Hid (sylB r = false) := Lib.hid (by unfold sylB; simp; omega)
    have b1 : ((44032 : Int) ≤ r) = True := by simp; omega
    have b2 : (r ≤ 55203) = False := by simp; omega
    obtain ⟨y, hy⟩ : ∃ y, y = IntKind.i32.wrap (r - 44032) := ⟨_, rfl⟩
    have q1 : IntKind.i32.wrap (r - 44032) = y := hy.symm
    have q0 : 0 ≤ r - 44032 := by omega
    clear h h1 h2 hy
    go_enter Tryz.func18, Tryz.ntmps18
    go_wp2_with fail
    go_ret2
    refine ⟨⟨_, by rw [HE.out]; rfl, fun h => ?_⟩, rfl⟩
    rw [HE.out] at h; cases h
def TabF (f : FuncId) (T : List (Int × Int × Int)) : Prop :=
  (∀ w, Calls Tryz.prog f #[] w fun e w' => e = .returned (.slice (some ⟨w.heap.size, 0, none⟩) T.length T.length) ∧ w' = w.alloc (.cells (cellsT T).toArray 67)) ∧ T.length ≤ 100000
def wideS (T : List (Int × Int × Int)) (r : Int) : Int := findL T r 0
set_option maxRecDepth 20000 in
theorem refWide_is (T : List (Int × Int × Int)) (hT : TabF 91 T) (r : Int) (w : World) : Calls Tryz.prog 69 #[.int .i32 r] w fun e w' => e = .returned (.bool (decide (wideS T r = 1))) ∧ Below w.heap.size w w' := by
  have hTT := Lib.hid hT.1
  have hlen := hT.2
  clear hT
  have hbn : Below w.heap.size w (w.alloc (.cells (cellsT T).toArray 67)) := (Below.refl _ w).alloc (Nat.le_refl _) _
  obtain ⟨X, hX⟩ : ∃ X, X = wideS T r := ⟨_, rfl⟩
  have HX : Hid (findL T r 0 = X) := Lib.hid (by rw [hX]; rfl)
  rw [← hX]
  clear hX
  go_enter Tryz.func69, Tryz.ntmps69
  go_wp2_with fail
  refine (hTT.out _).mono ?_
  rintro e w1 ⟨rfl, rfl⟩
  go_wp2_with fail
  refine (refFind_any T w.heap.size r 0 _ hlen (table_new w _ _)).mono ?_
  rintro e w2 ⟨rfl, rfl⟩
  rw [HX.out]
  go_wp2_with fail
  go_ret
  exact ⟨rfl, hbn⟩
def breakS (T : List (Int × Int × Int)) (r : Int) : Int := if letterB r then 0 else if sylB r then (if openB r then 36 else 37) else findL T r 0
set_option maxRecDepth 20000 in
theorem refBreak_is (T : List (Int × Int × Int)) (hT : TabF 21 T) (r : Int) (hr : I32 r) (w : World) : Calls Tryz.prog 11 #[.int .i32 r] w fun e w' => e = .returned (.int .u8 (breakS T r)) ∧ Below w.heap.size w w' := by
  have hTT := Lib.hid hT.1
  have hlen := hT.2
  clear hT
  have hbn : Below w.heap.size w (w.alloc (.cells (cellsT T).toArray 67)) := (Below.refl _ w).alloc (Nat.le_refl _) _
  obtain ⟨B, hB⟩ : ∃ B, B = letterB r := ⟨_, rfl⟩
  have HL := Lib.hid (fun w => letter_any r w)
  rw [← hB] at HL
  obtain ⟨S, hS⟩ : ∃ S, S = sylB r := ⟨_, rfl⟩
  have HS := Lib.hid (fun w => syllable_any r hr w)
  rw [← hS] at HS
  obtain ⟨O, hO⟩ : ∃ O, O = openB r := ⟨_, rfl⟩
  rw [← hO] at HS
  obtain ⟨X, hX⟩ : ∃ X, X = breakS T r := ⟨_, rfl⟩
  have HX : Hid (X = if B then 0 else if S then (if O then 36 else 37) else findL T r 0) := Lib.hid (by rw [hX, hB, hS, hO]; rfl)
  rw [← hX]
  clear hX hB hS hO hr
  cases B with
  | true =>
    go_enter Tryz.func11, Tryz.ntmps11
    go_wp2_with fail
    refine (HS.out _).mono ?_
    rintro e w0 ⟨⟨b, rfl, hbo⟩, rfl⟩
    go_wp2_with fail
    refine (HL.out _).mono ?_
    rintro e w0 ⟨rfl, rfl⟩
    clear hbo
    go_wp2_with fail
    go_ret
    exact ⟨by rw [HX.out]; rfl, Below.refl _ _⟩
  | false =>
    cases S with
    | true =>
      cases O with
      | true =>
        go_enter Tryz.func11, Tryz.ntmps11
        go_wp2_with fail
        refine (HS.out _).mono ?_
        rintro e w0 ⟨⟨b, rfl, hbo⟩, rfl⟩
        go_wp2_with fail
        refine (HL.out _).mono ?_
        rintro e w0 ⟨rfl, rfl⟩
        obtain rfl := hbo (by trivial)
        go_wp2_with fail
        go_ret
        exact ⟨by rw [HX.out]; rfl, Below.refl _ _⟩
      | false =>
        go_enter Tryz.func11, Tryz.ntmps11
        go_wp2_with fail
        refine (HS.out _).mono ?_
        rintro e w0 ⟨⟨b, rfl, hbo⟩, rfl⟩
        go_wp2_with fail
        refine (HL.out _).mono ?_
        rintro e w0 ⟨rfl, rfl⟩
        obtain rfl := hbo (by trivial)
        go_wp2_with fail
        go_ret
        exact ⟨by rw [HX.out]; rfl, Below.refl _ _⟩
    | false =>
      have HF : Hid (findL T r 0 = X) := Lib.hid (by rw [HX.out]; rfl)
      go_enter Tryz.func11, Tryz.ntmps11
      go_wp2_with fail
      refine (HS.out _).mono ?_
      rintro e w0 ⟨⟨b, rfl, hbo⟩, rfl⟩
      go_wp2_with fail
      refine (HL.out _).mono ?_
      rintro e w0 ⟨rfl, rfl⟩
      clear hbo
      go_wp2_with fail
      refine (hTT.out _).mono ?_
      rintro e w1 ⟨rfl, rfl⟩
      go_wp2_with fail
      refine (refFind_any T w.heap.size r 0 _ hlen (table_new w _ _)).mono ?_
      rintro e w2 ⟨rfl, rfl⟩
      rw [HF.out]
      go_wp2_with fail
      go_ret
      exact ⟨rfl, hbn⟩
end Go.Proofs.YtdbimchiecdkoaaGreat
