/-
  Lists.
-/
import Derived.Test.YtdbimchiecdkoaaSg2
set_option linter.unusedVariables false
namespace Sg
section
variable {cls : Int → Int} {wd : Int → Bool}
def eff (cls : Int → Int) (wd : Int → Bool) (u : U) : List Int → U
  | [] => u
  | x :: l => if mark (cls x) && !spaced u.1 then eff cls wd (upd cls u x) l else eff cls wd (nw cls wd x) l
theorem unF_mark {m : Int} (hm : cls m = 9) (l2 : List Int) : ∀ (u : U) (l1 : List Int), spaced (eff cls wd u l1).1 = false → (eff cls wd u l1).2.2.2.1 = false →
    Like (unF cls wd u (l1 ++ m :: l2)) (unF cls wd u (l1 ++ l2))
  | u, [], h1, h2 => by
    simp only [eff] at h1 h2
    have e : unF cls wd u ([] ++ m :: l2) = unF cls wd (upd cls u m) l2 := by simp [unF, mark, hm, h1]
    rw [e]
    exact unF_like _ _ l2 (by simp [rest, upd, hm, ← h2])
  | u, x :: l1, h1, h2 => by
    simp only [eff] at h1 h2
    simp only [List.cons_append, unF]
    split
    · rename_i h; rw [if_pos h] at h1 h2; exact unF_mark hm l2 _ l1 h1 h2
    · rename_i h; rw [if_neg h] at h1 h2; exact like_cons.2 ⟨rfl, unF_mark hm l2 _ l1 h1 h2⟩
theorem chF_mark {m : Int} (hm : cls m = 9) (l2 : List Int) : ∀ (L : List U) (u : U) (l1 : List Int), spaced (eff cls wd u l1).1 = false → (eff cls wd u l1).2.2.2.1 = false →
    chF cls wd L u (l1 ++ m :: l2) = (chF cls wd L u (l1 ++ l2)).take l1.length ++ 0 :: (chF cls wd L u (l1 ++ l2)).drop l1.length
  | L, u, [], h1, h2 => by
    simp only [eff] at h1 h2
    have e : chF cls wd L u ([] ++ m :: l2) = 0 :: chF cls wd L (upd cls u m) l2 := by simp [chF, mark, hm, h1]
    rw [e, chF_like L L (upd cls u m) u l2 rfl (by simp [rest, upd, hm, ← h2])]
    simp
  | L, u, x :: l1, h1, h2 => by
    simp only [eff] at h1 h2
    simp only [List.cons_append, chF, List.length_cons]
    split
    · rename_i h; rw [if_pos h] at h1 h2
      rw [chF_mark hm l2 L _ l1 h1 h2]; simp
    · rename_i h; rw [if_neg h] at h1 h2
      rw [chF_mark hm l2 (u :: L) _ l1 h1 h2, betw_like (show Like (u :: L) (u :: L) from rfl) (unF_mark hm l2 _ l1 h1 h2)]; simp
theorem chF_len : ∀ (L : List U) (u : U) (l : List Int), (chF cls wd L u l).length = l.length
  | _, _, [] => rfl
  | L, u, x :: l => by simp only [chF]; split <;> simp [chF_len _ _ l]
theorem brk_mark {m : Int} (hm : cls m = 9) (x : Int) (l1 l2 : List Int) (h1 : spaced (eff cls wd (nw cls wd x) l1).1 = false) (h2 : (eff cls wd (nw cls wd x) l1).2.2.2.1 = false) :
    brk cls wd (x :: (l1 ++ m :: l2)) = (brk cls wd (x :: (l1 ++ l2))).take (l1.length + 1) ++ 0 :: (brk cls wd (x :: (l1 ++ l2))).drop (l1.length + 1) := by
  have hl := chF_len (cls := cls) (wd := wd) [] (nw cls wd x) (l1 ++ l2)
  simp only [List.length_append] at hl
  rw [brk_chF, brk_chF, chF_mark hm l2 [] _ l1 h1 h2]
  simp only [List.take_succ_cons, List.drop_succ_cons, List.cons_append, List.append_assoc]
  rw [List.take_append_of_le_length (by omega), List.drop_append_of_le_length (by omega)]
def must (a c : Int) : Prop := a = 1 ∨ a = 4 ∨ a = 3 ∨ (a = 2 ∧ c ≠ 3)
theorem ite01 {c : Prop} [Decidable c] {a b : Int} (ha : a = 0 ∨ a = 1) (hb : b = 0 ∨ b = 1) : (if c then a else b) = 0 ∨ (if c then a else b) = 1 := by split <;> assumption
theorem lat_le (p q : Int) (a b c d e f : Bool) : lat p q a b c d e f = 0 ∨ lat p q a b c d e f = 1 := by
  unfold lat
  repeat' (first | refine ite01 ?_ ?_ | exact .inl rfl | exact .inr rfl)
theorem rul_two (p q : Int) (zp kzw kop kopn kcl kb2 clI nNU opI clP nwP nwN nwI nwO h10 oB oHL wP wI qop num1 num2 odd1 : Bool) :
    let r := rul p q zp kzw kop kopn kcl kb2 clI nNU opI clP nwP nwN nwI nwO h10 oB oHL wP wI qop num1 num2 odd1
    (r = 2 ↔ must p q) ∧ 0 ≤ r ∧ r ≤ 2 ∧ (spaced q = true → ¬must p q → r = 0) := by
  intro r
  have hr : r = rul p q zp kzw kop kopn kcl kb2 clI nNU opI clP nwP nwN nwI nwO h10 oB oHL wP wI qop num1 num2 odd1 := rfl
  clear_value r
  unfold rul at hr
  by_cases h1 : p = 1
  · rw [if_pos (by simp [h1])] at hr; subst hr; simp [must, h1]
  rw [if_neg (by simp [h1])] at hr
  by_cases h2 : p = 2 ∧ q = 3
  · rw [if_pos (by simp [h2])] at hr; subst hr; simp [must, h2]
  rw [if_neg (by simpa using h2)] at hr
  by_cases h3 : p = 2 ∨ p = 3 ∨ p = 4
  · rw [if_pos (by simpa [or_assoc] using h3)] at hr; subst hr
    have : must p q := by unfold must; omega
    simp [this]
  rw [if_neg (by simpa [or_assoc] using h3)] at hr
  have hm : ¬must p q := by unfold must; omega
  suffices h : (r = 0 ∨ r = 1) ∧ (spaced q = true → r = 0) by
    refine ⟨⟨fun h4 => by omega, fun h4 => absurd h4 hm⟩, by omega, by omega, fun h4 _ => h.2 h4⟩
  by_cases hs : spaced q = true
  · rw [if_pos hs] at hr; subst hr; simp
  · rw [if_neg hs] at hr
    refine ⟨?_, fun h => absurd h hs⟩
    subst hr
    repeat' (first | exact lat_le .. | refine ite01 ?_ ?_ | exact .inl rfl | exact .inr rfl)
theorem at0_unF (u : U) (l : List Int) : at0 (unF cls wd u l) = u.1 := by
  induction l generalizing u with
  | nil => rfl
  | cons x l ih => simp only [unF]; split <;> first | (rw [ih]; rfl) | rfl
def MustAt (a c v : Int) : Prop := (v = 2 ↔ must a c) ∧ 0 ≤ v ∧ v ≤ 2 ∧ (¬must a c → v ≠ 0 → spaced c = false)
def Each (cls : Int → Int) : Int → List Int → List Int → Prop
  | _, [], [] => True
  | a, x :: l, v :: t => MustAt a (cls x) v ∧ Each cls (cls x) l t
  | _, _, _ => False
def Ends (u : U) (a : Int) : Prop := ∀ c, c = 1 ∨ c = 2 ∨ c = 3 ∨ c = 4 → (u.1 = c ↔ a = c)
theorem nw_cls (x : Int) {c : Int} (hc : c ≠ 0) (h9 : c ≠ 9) (h10 : c ≠ 10) : (nw cls wd x).1 = c ↔ cls x = c := by
  simp only [nw]
  by_cases h : mark (cls x) = true
  · rw [if_pos h]; simp only [mark, Bool.or_eq_true, beq_iff_eq] at h; omega
  · rw [if_neg h]
theorem ends_nw (x : Int) : Ends (nw cls wd x) (cls x) := fun c hc => nw_cls x (by omega) (by omega) (by omega)
theorem each_chF : ∀ (L : List U) (u : U) (a : Int) (l : List Int), Ends u a → Each cls a l (chF cls wd L u l)
  | L, u, a, [], _ => trivial
  | L, u, a, x :: l, h => by
    simp only [chF]
    split
    · rename_i hm
      simp only [Bool.and_eq_true, Bool.not_eq_true'] at hm
      obtain ⟨h1, h2⟩ := hm
      simp only [mark, Bool.or_eq_true, beq_iff_eq] at h1
      simp only [spaced, Bool.or_eq_false_iff, beq_eq_false_iff_ne] at h2
      have e1 := h 1 (by omega)
      have e2 := h 2 (by omega)
      have e3 := h 3 (by omega)
      have e4 := h 4 (by omega)
      refine ⟨⟨⟨fun h => by omega, fun h => ?_⟩, by omega, by omega, fun _ h => absurd rfl h⟩, each_chF L _ _ l ?_⟩
      · unfold must at h; omega
      · intro c hc
        simp only [upd]
        omega
    · rename_i hm
      have hb : ∀ R, at0 R = (nw cls wd x).1 → MustAt a (cls x) (betw (u :: L) R) := by
        intro R hR
        have q3 : at0 R = 3 ↔ cls x = 3 := hR ▸ nw_cls x (by omega) (by omega) (by omega)
        have e1 := h 1 (by omega)
        have e2 := h 2 (by omega)
        have e3 := h 3 (by omega)
        have e4 := h 4 (by omega)
        have hmm : must (at0 (u :: L)) (at0 R) ↔ must a (cls x) := by
          simp only [must, at0]
          simp only [at0] at q3
          omega
        obtain ⟨r1, r2, r3, r4⟩ := rul_two (at0 (u :: L)) (at0 R) (zw0 (u :: L)) (at0 (spk (u :: L)) == 6) (at0 (spk (u :: L)) == 19) (opnL (spk (u :: L)) && inO (at0 ((spk (u :: L)).drop 1))) (at0 (spk (u :: L)) == 21 || at0 (spk (u :: L)) == 20) (at0 (spk (u :: L)) == 13)
          (clsL R && inC (at0 (R.drop 1))) (at0 (R.drop 1) == 27) (opnL R) (clsL (u :: L)) (narrow (u :: L)) (narrow (R.drop 1)) (narrow R) (narrow ((u :: L).drop 1))
          (r0 (u :: L) == 0x2010) (inH (at0 ((u :: L).drop 1))) (at0 ((u :: L).drop 1) == 28) (wd0 (u :: L)) (wd0 R)
          (at0 R == 19 && (at0 (R.drop 1) == 27 || at0 (R.drop 1) == 23 && at0 (R.drop 2) == 27)) (num (u :: L)) (num ((u :: L).drop 1)) (oddR (u :: L))
        refine ⟨r1.trans hmm, r2, r3, fun h1 h2 => ?_⟩
        rw [Bool.eq_false_iff]
        intro hs
        refine h2 (r4 ?_ (fun h => h1 (hmm.1 h)))
        have hc : at0 R = cls x := by
          rw [hR]
          simp only [spaced, Bool.or_eq_true, beq_iff_eq] at hs
          exact (nw_cls x (c := cls x) (by omega) (by omega) (by omega)).2 rfl
        rw [hc]; exact hs
      exact ⟨hb _ (at0_unF ..), each_chF _ _ _ l (ends_nw x)⟩
theorem brk_musts (x : Int) (l : List Int) : ∃ t, brk cls wd (x :: l) = 0 :: (t ++ [2]) ∧ t.length = l.length ∧ Each cls (cls x) l t :=
  ⟨_, brk_chF x l, chF_len .., each_chF _ _ _ _ (ends_nw x)⟩
end
end Sg
