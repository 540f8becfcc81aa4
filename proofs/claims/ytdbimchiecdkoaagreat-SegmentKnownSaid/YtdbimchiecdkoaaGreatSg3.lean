/-
  Lists.
-/
import Derived.Test.YtdbimchiecdkoaaGreatSg1
set_option linter.unusedVariables false
namespace Sg
section
variable {cls : Int → Int} {wd : Int → Bool}
def eff (cls : Int → Int) (wd : Int → Bool) (u : U) : List Int → U
  | [] => u
  | x :: l => if mark (cls x) && !spaced u.1 then eff cls wd (upd cls u x) l else eff cls wd (nw cls wd x) l
theorem unF_mark {m : Int} (hm : cls m = 9) (l2 : List Int) : ∀ (u : U) (l1 : List Int), spaced (eff cls wd u l1).1 = false → (eff cls wd u l1).2.2.2.1 = false →
    Like (unF cls wd u (l1 ++ m :: l2)) (unF cls wd u (l1 ++ l2))
  | u, [], h1, h2 => by
    simp only [eff] at h1 h2
    have e : unF cls wd u ([] ++ m :: l2) = unF cls wd (upd cls u m) l2 := by simp [unF, mark, hm, h1]
    rw [e]
    exact unF_like _ _ l2 (by simp [rest, upd, hm, ← h2])
  | u, x :: l1, h1, h2 => by
    simp only [eff] at h1 h2
    simp only [List.cons_append, unF]
    split
    · rename_i h; rw [if_pos h] at h1 h2; exact unF_mark hm l2 _ l1 h1 h2
    · rename_i h; rw [if_neg h] at h1 h2; exact like_cons.2 ⟨rfl, unF_mark hm l2 _ l1 h1 h2⟩
theorem chF_mark {m : Int} (hm : cls m = 9) (l2 : List Int) : ∀ (L : List U) (u : U) (l1 : List Int), spaced (eff cls wd u l1).1 = false → (eff cls wd u l1).2.2.2.1 = false →
    chF cls wd L u (l1 ++ m :: l2) = (chF cls wd L u (l1 ++ l2)).take l1.length ++ 0 :: (chF cls wd L u (l1 ++ l2)).drop l1.length
  | L, u, [], h1, h2 => by
    simp only [eff] at h1 h2
    have e : chF cls wd L u ([] ++ m :: l2) = 0 :: chF cls wd L (upd cls u m) l2 := by simp [chF, mark, hm, h1]
    rw [e, chF_like L L (upd cls u m) u l2 rfl (by simp [rest, upd, hm, ← h2])]
    simp
  | L, u, x :: l1, h1, h2 => by
    simp only [eff] at h1 h2
    simp only [List.cons_append, chF, List.length_cons]
    split
    · rename_i h; rw [if_pos h] at h1 h2
      rw [chF_mark hm l2 L _ l1 h1 h2]; simp
    · rename_i h; rw [if_neg h] at h1 h2
      rw [chF_mark hm l2 (u :: L) _ l1 h1 h2, betw_like (show Like (u :: L) (u :: L) from rfl) (unF_mark hm l2 _ l1 h1 h2)]; simp
theorem chF_len : ∀ (L : List U) (u : U) (l : List Int), (chF cls wd L u l).length = l.length
  | _, _, [] => rfl
  | L, u, x :: l => by simp only [chF]; split <;> simp [chF_len _ _ l]
theorem brk_mark {m : Int} (hm : cls m = 9) (x : Int) (l1 l2 : List Int) (h1 : spaced (eff cls wd (nw cls wd x) l1).1 = false) (h2 : (eff cls wd (nw cls wd x) l1).2.2.2.1 = false) :
    brk cls wd (x :: (l1 ++ m :: l2)) = (brk cls wd (x :: (l1 ++ l2))).take (l1.length + 1) ++ 0 :: (brk cls wd (x :: (l1 ++ l2))).drop (l1.length + 1) := by
  have hl := chF_len (cls := cls) (wd := wd) [] (nw cls wd x) (l1 ++ l2)
  simp only [List.length_append] at hl
  rw [brk_chF, brk_chF, chF_mark hm l2 [] _ l1 h1 h2]
  simp only [List.take_succ_cons, List.drop_succ_cons, List.cons_append, List.append_assoc]
  rw [List.take_append_of_le_length (by omega), List.drop_append_of_le_length (by omega)]
def must (a c : Int) : Prop := a = 1 ∨ a = 4 ∨ a = 3 ∨ (a = 2 ∧ c ≠ 3)
def MustAt (a c v : Int) : Prop := (v = 2 ↔ must a c) ∧ 0 ≤ v ∧ v ≤ 2 ∧ (¬must a c → v ≠ 0 → spaced c = false)
def Each (cls : Int → Int) : Int → List Int → List Int → Prop
  | _, [], [] => True
  | a, x :: l, v :: t => MustAt a (cls x) v ∧ Each cls (cls x) l t
  | _, _, _ => False
end
end Sg
