/-
  What ucd's functions of a character answer is what the document says: at every character.
-/
import Derived.Test.YtbdhgjaoojimmaaDoorUcd
import Derived.Test.YtbdhgjaoojimmaaDoorTabF
namespace Go.Proofs.YtbdhgjaoojimmaaDoor
open Go Go.RowKit

/-- the tests that other functions make, where openSyllable's second half is known -/
def Eb (b : Bool) : Nat → Int → Bool
  | 0, r => anyL E0 markL r
  | 1, r => sylB r && b
  | 2, r => sylB r
  | _, _ => false

theorem E1_at (r : Int) (k : Nat) : E1 k r = Eb (openB r) k r := by
  match k with
  | 0 => rfl
  | 1 => rfl
  | 2 => rfl
  | _ + 3 => rfl

theorem semL_at (E E' : Nat → Int → Bool) (l : List (Cnd × Int)) (d r : Int) (h : ∀ k, E k r = E' k r) : semL E l d r = semL E' l d r := by
  induction l with
  | nil => rfl
  | cons x l ih =>
    have e : x.1.holds E r = x.1.holds E' r := by
      cases x.1 with
      | ext k => exact h k
      | _ => rfl
    rw [semL, semL, e, ih]

def X0 : Nat → List Int := fun _ => []
theorem E0_turns (k : Nat) : TurnsB (E0 k) (X0 k) := fun _ _ _ => rfl

def X1 : Nat → List Int
  | 0 => cutsO X0 markL
  | _ => [44032, 55204]

theorem sylB_turns : TurnsB sylB [44032, 55204] := by
  intro r p h
  have h1 := h 44032 (by simp)
  have h2 := h 55204 (by simp)
  unfold sylB
  have e1 : decide (44032 ≤ r) = decide (44032 ≤ p) := by simp [h1]
  have e2 : decide (r ≤ 55203) = decide (p ≤ 55203) := by simp only [decide_eq_decide]; omega
  rw [e1, e2]

theorem letterB_turns : TurnsB letterB [65, 91, 97, 123] := by
  intro r p h
  have h1 := h 65 (by simp)
  have h2 := h 91 (by simp)
  have h3 := h 97 (by simp)
  have h4 := h 123 (by simp)
  unfold letterB
  have e1 : decide (65 ≤ r) = decide (65 ≤ p) := by simp [h1]
  have e2 : decide (r ≤ 90) = decide (p ≤ 90) := by simp only [decide_eq_decide]; omega
  have e3 : decide (97 ≤ r) = decide (97 ≤ p) := by simp [h3]
  have e4 : decide (r ≤ 122) = decide (p ≤ 122) := by simp only [decide_eq_decide]; omega
  rw [e1, e2, e3, e4]

theorem Eb_turns (b : Bool) (k : Nat) : TurnsB (Eb b k) (X1 k) := by
  match k with
  | 0 => exact anyL_turns E0 X0 E0_turns markL
  | 1 =>
    intro r p h
    show (sylB r && b) = (sylB p && b)
    rw [sylB_turns r p h]
  | 2 => exact sylB_turns
  | _ + 3 => exact fun _ _ _ => rfl

/-- turning places of what is put together -/
theorem TurnsAt.ite {c : Int → Bool} {f g : Int → Int} {l : List Int} (hc : TurnsB c l) (hf : TurnsAt f l) (hg : TurnsAt g l) : TurnsAt (fun r => if c r then f r else g r) l := by
  intro r p h
  show (if c r then f r else g r) = (if c p then f p else g p)
  rw [hc r p h, hf r p h, hg r p h]

theorem TurnsB.more {f : Int → Bool} {l m : List Int} (h : TurnsB f l) (hm : ∀ c ∈ l, c ∈ m) : TurnsB f m := fun r p hc => h r p (fun c hl => hc c (hm c hl))

theorem TurnsAt.const (d : Int) (l : List Int) : TurnsAt (fun _ => d) l := fun _ _ _ => rfl

theorem same_all {f g : Int → Int} {l m : List Int} (hf : TurnsAt f l) (hg : TurnsAt g m) (h : ((l ++ m).all fun c => decide (-1 < c) && (f c == g c)) = true) (h0 : (f (-1) == g (-1)) = true) (r : Int) : f r = g r := by
  have h' : ∀ c ∈ l ++ m, -1 < c ∧ f c = g c := by
    intro c hc
    have := List.all_eq_true.1 h c hc
    simpa [Bool.and_eq_true] using this
  refine same_of_turns (l := l ++ m) (hf.more fun c hc => List.mem_append_left _ hc) (hg.more fun c hc => List.mem_append_right _ hc) (-1) (fun c hc => (h' c hc).1) (by simpa using h0) (fun c hc => (h' c hc).2) r

theorem fourS_turns {a b c d : Int → Int} {l : List Int} (ha : TurnsAt a l) (hb : TurnsAt b l) (hc : TurnsAt c l) (hd : TurnsAt d l) (h : ∀ x ∈ [768, 2048, 12544], x ∈ l) : TurnsAt (fourS a b c d) l := by
  intro r p hr
  have h1 := hr 768 (h 768 (by simp))
  have h2 := hr 2048 (h 2048 (by simp))
  have h3 := hr 12544 (h 12544 (by simp))
  unfold fourS
  rw [ha r p hr, hb r p hr, hc r p hr, hd r p hr]
  by_cases c1 : r < 768
  · rw [if_pos c1, if_pos (by omega)]
  · by_cases c2 : r < 2048
    · rw [if_neg c1, if_pos c2, if_neg (by omega), if_pos (by omega)]
    · by_cases c3 : r < 12544
      · rw [if_neg c1, if_neg c2, if_pos c3, if_neg (by omega), if_neg (by omega), if_pos (by omega)]
      · rw [if_neg c1, if_neg c2, if_neg c3, if_neg (by omega), if_neg (by omega), if_neg (by omega)]

/-! ### the document's -/
def docT (T : List (Int × Int × Int)) : List Int := [65, 91, 97, 123] ++ ([44032, 55204] ++ cutsT T)

theorem find_doc (T : List (Int × Int × Int)) (o : Int) : TurnsAt (fun r => findL T r o) (docT T) := (findL_turns T o).more fun c hc => by simp [docT, hc]
theorem letter_doc (T : List (Int × Int × Int)) : TurnsB letterB (docT T) := letterB_turns.more fun _ hc => List.mem_append_left _ hc
theorem syl_doc (T : List (Int × Int × Int)) : TurnsB sylB (docT T) := sylB_turns.more fun _ hc => List.mem_append_right _ (List.mem_append_left _ hc)

theorem classS_turns (T : List (Int × Int × Int)) : TurnsAt (classS T) (docT T) := TurnsAt.ite (letter_doc T) (TurnsAt.const _ _) (find_doc T 1)
theorem joiningS_turns (T : List (Int × Int × Int)) : TurnsAt (joiningS T) (docT T) := TurnsAt.ite (letter_doc T) (TurnsAt.const _ _) (find_doc T 0)
theorem scriptS_turns (T : List (Int × Int × Int)) : TurnsAt (scriptS T) (docT T) := find_doc T 0
theorem wideS_turns (T : List (Int × Int × Int)) : TurnsAt (wideS T) (docT T) := find_doc T 0
theorem spaceS_turns (T : List (Int × Int × Int)) : TurnsAt (spaceS T) (docT T) := find_doc T 0

def breakSb (b : Bool) (T : List (Int × Int × Int)) (r : Int) : Int := if letterB r then 0 else if sylB r then (if b then 36 else 37) else findL T r 0
def clusterSb (b : Bool) (T : List (Int × Int × Int)) (r : Int) : Int := if letterB r then 0 else if sylB r then (if b then 11 else 12) else findL T r 0
theorem breakSb_turns (b : Bool) (T : List (Int × Int × Int)) : TurnsAt (breakSb b T) (docT T) := TurnsAt.ite (letter_doc T) (TurnsAt.const _ _) (TurnsAt.ite (syl_doc T) (TurnsAt.const _ _) (find_doc T 0))
theorem clusterSb_turns (b : Bool) (T : List (Int × Int × Int)) : TurnsAt (clusterSb b T) (docT T) := TurnsAt.ite (letter_doc T) (TurnsAt.const _ _) (TurnsAt.ite (syl_doc T) (TurnsAt.const _ _) (find_doc T 0))

/-! ### the code's -/
def classCb (b : Bool) (r : Int) : Int := fourS (semL (Eb b) lowClassL lowClassD) (semL (Eb b) rightClassL rightClassD) (fun r => semL (Eb b) signClassL (semL (Eb b) explicitClassL explicitClassD r) r) (semL (Eb b) highClassL highClassD) r
def breakCb (b : Bool) (r : Int) : Int := fourS (semL (Eb b) lowBreakL lowBreakD) (semL (Eb b) rightBreakL rightBreakD) (semL (Eb b) signBreakL signBreakD) (semL (Eb b) highBreakL highBreakD) r

theorem semE1 (l : List (Cnd × Int)) (d r : Int) : semL E1 l d r = semL (Eb (openB r)) l d r := semL_at _ _ _ _ _ (E1_at r)

theorem classC_b (r : Int) : classC r = classCb (openB r) r := by
  unfold classC classCb fourS
  simp only [semE1]
theorem breakC_b (r : Int) : breakC r = breakCb (openB r) r := by
  unfold breakC breakCb fourS
  simp only [semE1]

def classX : List Int := [768, 2048, 12544] ++ (cutsL X1 lowClassL ++ (cutsL X1 rightClassL ++ (cutsL X1 signClassL ++ (cutsL X1 explicitClassL ++ cutsL X1 highClassL))))
def breakX : List Int := [768, 2048, 12544] ++ (cutsL X1 lowBreakL ++ (cutsL X1 rightBreakL ++ (cutsL X1 signBreakL ++ cutsL X1 highBreakL)))

theorem semL_then_turns (E : Nat → Int → Bool) (X : Nat → List Int) (hE : ∀ k, TurnsB (E k) (X k)) (l : List (Cnd × Int)) (f : Int → Int) (m : List Int) (hf : TurnsAt f m) (hl : ∀ c ∈ cutsL X l, c ∈ m) : TurnsAt (fun r => semL E l (f r) r) m := by
  intro r p h
  have e := semL_turns E X hE l (f r) r p (fun c hc => h c (hl c hc))
  show semL E l (f r) r = semL E l (f p) p
  rw [e, hf r p h]

theorem classCb_turns (b : Bool) : TurnsAt (classCb b) classX := by
  refine fourS_turns ((semL_turns _ X1 (Eb_turns b) _ _).more fun c hc => ?_) ((semL_turns _ X1 (Eb_turns b) _ _).more fun c hc => ?_) (semL_then_turns _ X1 (Eb_turns b) _ _ _ ((semL_turns _ X1 (Eb_turns b) _ _).more fun c hc => ?_) fun c hc => ?_) ((semL_turns _ X1 (Eb_turns b) _ _).more fun c hc => ?_) fun x hx => ?_
  · exact List.mem_append_right _ (List.mem_append_left _ hc)
  · exact List.mem_append_right _ (List.mem_append_right _ (List.mem_append_left _ hc))
  · exact List.mem_append_right _ (List.mem_append_right _ (List.mem_append_right _ (List.mem_append_right _ (List.mem_append_left _ hc))))
  · exact List.mem_append_right _ (List.mem_append_right _ (List.mem_append_right _ (List.mem_append_left _ hc)))
  · exact List.mem_append_right _ (List.mem_append_right _ (List.mem_append_right _ (List.mem_append_right _ (List.mem_append_right _ hc))))
  · exact List.mem_append_left _ hx

theorem breakCb_turns (b : Bool) : TurnsAt (breakCb b) breakX := by
  refine fourS_turns ((semL_turns _ X1 (Eb_turns b) _ _).more fun c hc => ?_) ((semL_turns _ X1 (Eb_turns b) _ _).more fun c hc => ?_) ((semL_turns _ X1 (Eb_turns b) _ _).more fun c hc => ?_) ((semL_turns _ X1 (Eb_turns b) _ _).more fun c hc => ?_) fun x hx => ?_
  · exact List.mem_append_right _ (List.mem_append_left _ hc)
  · exact List.mem_append_right _ (List.mem_append_right _ (List.mem_append_left _ hc))
  · exact List.mem_append_right _ (List.mem_append_right _ (List.mem_append_right _ (List.mem_append_left _ hc)))
  · exact List.mem_append_right _ (List.mem_append_right _ (List.mem_append_right _ (List.mem_append_right _ hc)))
  · exact List.mem_append_left _ hx

/-! ### the kernel's checks -/
theorem joining_eq (r : Int) : semL E1 joiningL joiningD r = joiningS (tableOf Tryd.f24) r := by
  rw [semE1]
  cases openB r with
  | true => exact same_all (semL_turns _ X1 (Eb_turns true) _ _) (joiningS_turns _) (by kernel_rfl) (by kernel_rfl) r
  | false => exact same_all (semL_turns _ X1 (Eb_turns false) _ _) (joiningS_turns _) (by kernel_rfl) (by kernel_rfl) r

end Go.Proofs.YtbdhgjaoojimmaaDoor
