/-
  The program's forms, by lists.
-/
import Derived.Test.YtbdhgjaoojimmaaDoorJa
import Derived.Test.YtbdhgjaoojimmaaDoorP1
namespace Go.Proofs.YtbdhgjaoojimmaaDoor
open Go Go.RowKit _root_.Jn
set_option linter.unusedVariables false
set_option linter.unusedSimpArgs false
section
variable {N : Nat}
/-- do these types join? -/
def jnt (a b : Int) : Bool := (a == 2 || a == 3 || a == 5) && (b == 1 || b == 2 || b == 3)
theorem pJn_eq (a b : Int) : pJn N a b = some (jnt a b) := by
  unfold pJn jnt
  by_cases a2 : a = 2 <;> by_cases a3 : a = 3 <;> by_cases a5 : a = 5 <;> by_cases b1 : b = 1 <;> by_cases b2 : b = 2 <;> by_cases b3 : b = 3 <;> simp [a2, a3, a5, b1, b2, b3]
theorem pJoins_eq (a b : Int) : pJoins N a b = some (jn jnC a b) := by
  unfold pJoins
  rw [show ucJn N a = some (jnC a) from rfl, show ucJn N b = some (jnC b) from rfl]
  simp only [Option.bind_some, pJn_eq]
  rfl
theorem pForm_eq (a o b : Int) : pForm N a o b = some (form o (jnt a o) (jnt o b)) := by
  have hnb : ∀ x : Bool, pNb N x = some (if x then 1 else 0) := fun x => by cases x <;> rfl
  unfold pForm form
  simp only [pJn_eq, hnb, Option.bind_some]
  by_cases o1 : o = 1
  · subst o1
    have e : jnt 1 b = false := by simp [jnt]
    simp only [e]
    cases jnt a 1 <;> rfl
  · by_cases o2 : o = 2
    · subst o2
      cases jnt a 2 <;> cases jnt 2 b <;> rfl
    · by_cases o5 : o = 5
      · subst o5
        have e : jnt a 5 = false := by simp [jnt]
        simp only [e]
        cases jnt 5 b <;> rfl
      · simp [o1, o2, o5]
/-- what the iterator tells -/
def nbs : Int → Int → Int → Int → List Int → List (Int × Int × Int × Int)
  | ah, ow, pl, _, [] => if 0 ≤ pl then [(pl, ah, ow, 0)] else []
  | ah, ow, pl, k, x :: t => if jnC x = 4 then nbs ah ow pl (k + 1) t else if 0 ≤ pl then (pl, ah, ow, jnC x) :: nbs ow (jnC x) k (k + 1) t else nbs ow (jnC x) k (k + 1) t
theorem pNbs1_L1_eq {l : List Int} (hl : l.length ≤ 100000) : ∀ (f i : Nat) (ah ow pl : Int), l.length - i < f → i ≤ l.length → pNbs1_L1 N l f ah ow 0 pl (i : Int) = some (nbs ah ow pl i (l.drop i))
  | 0, i, _, _, _, h, _ => by omega
  | f + 1, i, ah, ow, pl, hf, hi => by
    unfold pNbs1_L1
    by_cases h : i < l.length
    · have e2 : IntKind.i64.wrap ((i : Int) + 1) = ((i + 1 : Nat) : Int) := by rw [w64s (by omega) (by omega)]; omega
      rw [if_pos (by omega), ix_nat (getD_some h), Option.bind_some, show ucJn N (l.getD i 0) = some (jnC (l.getD i 0)) from rfl, Option.bind_some, e2, getD_drop h, nbs]
      rw [pNbs1_L1_eq hl f (i + 1) ah ow pl (by omega) h, pNbs1_L1_eq hl f (i + 1) ow (jnC (l.getD i 0)) i (by omega) h]
      rw [show ((i + 1 : Nat) : Int) = (i : Int) + 1 by omega]
      by_cases h4 : jnC (l.getD i 0) = 4
      · rw [if_pos h4, if_pos h4]
      · rw [if_neg h4, if_neg h4]
        by_cases hp : pl ≥ 0
        · rw [if_pos hp, if_pos hp]; rfl
        · rw [if_neg hp, if_neg hp]
    · rw [if_neg (by omega), List.drop_eq_nil_of_le (by omega), nbs]
      by_cases hp : pl ≥ 0
      · rw [if_pos hp, if_pos hp]; rfl
      · rw [if_neg hp, if_neg hp]
theorem pNbs1_eq {l : List Int} (hl : l.length ≤ 100000) (hN : l.length < N) : pNbs1 N l = some (nbs 0 0 (-1) 0 l) := by
  unfold pNbs1
  exact pNbs1_L1_eq hl N 0 0 0 (-1) (by omega) (by omega)
/-- the type of the next one that is not passed -/
def nxT (l : List Int) : Int := match nxt jnC l with | none => 0 | some v => jnC v
def pvT : Option Int → Int | none => 0 | some u => jnC u
def fmt : Int → List Int → List Int
  | _, [] => []
  | ah, x :: t => form (jnC x) (jnt ah (jnC x)) (jnt (jnC x) (nxT t)) :: fmt (if jnC x = 4 then ah else jnC x) t
theorem fms_fmt : ∀ (l : List Int) (p : Option Int), fms jnC p l = fmt (pvT p) l
  | [], _ => rfl
  | x :: t, p => by
    rw [fms, fmt, fms_fmt t]
    have e1 : jo jnC p x = jnt (pvT p) (jnC x) := by cases p <;> rfl
    have e2 : jb jnC x (nxt jnC t) = jnt (jnC x) (nxT t) := by
      unfold nxT
      cases nxt jnC t with
      | none => simp [jb, jnt]
      | some v => rfl
    rw [e1, e2]
    by_cases h : jnC x = 4
    · rw [if_pos ((pass_iff x).2 h), if_pos h]
    · rw [if_neg (fun hh => h ((pass_iff x).1 hh)), if_neg h]; rfl
theorem nxT_pass {x : Int} {t : List Int} (h : jnC x = 4) : nxT (x :: t) = nxT t := by
  unfold nxT; rw [show nxt jnC (x :: t) = nxt jnC t by rw [nxt, if_pos ((pass_iff x).2 h)]]
theorem nxT_not {x : Int} {t : List Int} (h : jnC x ≠ 4) : nxT (x :: t) = jnC x := by
  unfold nxT; rw [show nxt jnC (x :: t) = some x by rw [nxt, if_neg (fun hh => h ((pass_iff x).1 hh))]]
theorem setx_mid (A : List Int) (u v : Int) (B : List Int) : (ix (A ++ u :: B) (A.length : Int)).bind (fun _ => setx (A ++ u :: B) (A.length : Int) v) = some (A ++ v :: B) := by
  rw [ix_nat (v := u) (by simp), Option.bind_some, setx_nat (by simp)]
  congr 1
  rw [List.set_append_right _ _ (by omega)]; simp
theorem rep_succ (z : Nat) (B : List Int) : List.replicate z (0 : Int) ++ 0 :: B = List.replicate (z + 1) 0 ++ B := by
  rw [List.replicate_succ', List.append_assoc]; rfl
theorem step1 (N : Nat) (ah ow bh : Int) (its : List (Int × Int × Int × Int)) (A B : List Int) (u : Int) : pForms_X1 N (((A.length : Int), ah, ow, bh) :: its) (A ++ u :: B) = pForms_X1 N its (A ++ form ow (jnt ah ow) (jnt ow bh) :: B) := by
  rw [pForms_X1, pForm_eq, Option.bind_some]
  rw [ix_nat (v := u) (by simp), Option.bind_some, setx_nat (by simp), Option.bind_some]
  congr 1
  rw [List.set_append_right _ _ (by omega)]; simp
theorem x1_held (N : Nat) : ∀ (t : List Int) (ah ow : Int) (A : List Int) (z : Nat),
    pForms_X1 N (nbs ah ow (A.length : Int) ((A.length + 1 + z : Nat) : Int) t) (A ++ 0 :: (List.replicate z 0 ++ List.replicate t.length 0)) = some (A ++ form ow (jnt ah ow) (jnt ow (nxT t)) :: (List.replicate z 0 ++ fmt ow t))
  | [], ah, ow, A, z => by
    rw [nbs, if_pos (by omega), step1]
    rfl
  | x :: t, ah, ow, A, z => by
    rw [nbs]
    by_cases h : jnC x = 4
    · rw [if_pos h, show ((A.length + 1 + z : Nat) : Int) + 1 = ((A.length + 1 + (z + 1) : Nat) : Int) by omega, List.length_cons, List.replicate_succ, rep_succ, x1_held N t ah ow A (z + 1), nxT_pass h, fmt, if_pos h, h]
      rw [show form 4 (jnt ow 4) (jnt 4 (nxT t)) = 0 from rfl, rep_succ]
    · rw [if_neg h, if_pos (by omega), step1, List.length_cons, List.replicate_succ]
      obtain ⟨A', hA'⟩ : ∃ A', A' = A ++ form ow (jnt ah ow) (jnt ow (jnC x)) :: List.replicate z 0 := ⟨_, rfl⟩
      have e1 : A'.length = A.length + 1 + z := by rw [hA']; simp; omega
      have e2 : A ++ form ow (jnt ah ow) (jnt ow (jnC x)) :: (List.replicate z 0 ++ 0 :: List.replicate t.length 0) = A' ++ 0 :: (List.replicate 0 0 ++ List.replicate t.length 0) := by rw [hA']; simp
      rw [e2, ← e1, show ((A'.length : Nat) : Int) + 1 = ((A'.length + 1 + 0 : Nat) : Int) by omega, x1_held N t ow (jnC x) A' 0, nxT_not h, fmt, if_neg h, hA']
      simp
theorem x1_none (N : Nat) : ∀ (t : List Int) (z : Nat), pForms_X1 N (nbs 0 0 (-1) (z : Int) t) (List.replicate z 0 ++ List.replicate t.length 0) = some (List.replicate z 0 ++ fmt 0 t)
  | [], z => by rw [nbs, if_neg (by omega), pForms_X1]; rfl
  | x :: t, z => by
    rw [nbs]
    by_cases h : jnC x = 4
    · rw [if_pos h, show (z : Int) + 1 = ((z + 1 : Nat) : Int) by omega, List.length_cons, List.replicate_succ, rep_succ, x1_none N t (z + 1), fmt, if_pos h, h]
      rw [show form 4 (jnt 0 4) (jnt 4 (nxT t)) = 0 from rfl, rep_succ]
    · rw [if_neg h, if_neg (by omega), List.length_cons, List.replicate_succ]
      have := x1_held N t 0 (jnC x) (List.replicate z 0) 0
      rw [List.length_replicate] at this
      rw [show (z : Int) + 1 = ((z + 1 + 0 : Nat) : Int) by omega]
      simp only [List.replicate_zero, List.nil_append] at this
      rw [this, fmt, if_neg h]
theorem pForms_eq {l : List Int} (hl : l.length ≤ 100000) (hN : l.length + 1 < N) : pForms N l = some (fms jnC none l) := by
  unfold pForms
  have e : mkx ((l.length : Nat) : Int) = some (List.replicate l.length 0) := by unfold mkx; rw [if_pos ⟨by omega, by omega⟩]; simp
  rw [e, Option.bind_some, pNbs1_eq hl (by omega), Option.bind_some]
  have := x1_none N l 0
  simp only [List.replicate_zero, List.nil_append] at this
  rw [show ((0 : Nat) : Int) = 0 from rfl] at this
  rw [this, Option.bind_some, fms_fmt]
  rfl
end
end Go.Proofs.YtbdhgjaoojimmaaDoor
