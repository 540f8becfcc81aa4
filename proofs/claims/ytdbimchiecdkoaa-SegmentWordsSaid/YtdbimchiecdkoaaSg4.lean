/-
  Lists.
-/
import Derived.Test.YtdbimchiecdkoaaSg3
set_option linter.unusedVariables false
namespace Sg
section
variable {cls : Int → Int} {wd : Int → Bool}
def Wd (c : Int) : Prop := c = 5 ∨ c = 0 ∨ c = 28 ∨ c = 27
theorem rul_words {p q : Int} (hp : Wd p) (hq : Wd q) (kcl kb2 nNU opI clP nwP nwN nwI nwO h10 oB oHL wP wI qop num1 num2 odd1 : Bool) (hn : p = 27 → num1 = true) :
    rul p q false false false false kcl kb2 false nNU opI clP nwP nwN nwI nwO h10 oB oHL wP wI qop num1 num2 odd1 = if p = 5 ∧ q ≠ 5 then 1 else 0 := by
  rcases hp with rfl | rfl | rfl | rfl <;> rcases hq with rfl | rfl | rfl | rfl <;> simp [rul, lat, spaced, inX, letter, idm, hangul]
  simp [hn rfl]
theorem clsL_22 {R : List U} (h : at0 R ≠ 22) : clsL R = false ∧ opnL R = false := by
  cases R with
  | nil => exact ⟨rfl, rfl⟩
  | cons u t => simp only [at0] at h; simp [clsL, opnL, cls0, opn, h]
def GoodU (u : U) : Prop := Wd u.1 ∧ u.2.2.2.1 = false
theorem spk_words : ∀ {L : List U}, (∀ u ∈ L, GoodU u) → at0 (spk L) = 99 ∨ at0 (spk L) = 0 ∨ at0 (spk L) = 28 ∨ at0 (spk L) = 27
  | [], _ => .inl rfl
  | u :: t, h => by
    simp only [spk]
    split
    · exact spk_words (fun v hv => h v (List.mem_cons_of_mem _ hv))
    · rename_i h5
      simp only [beq_iff_eq] at h5
      have := (h u (List.mem_cons_self ..)).1
      unfold Wd at this
      simp only [at0]; omega
theorem betw_words {u : U} {L R : List U} (h : ∀ v ∈ u :: L, GoodU v) (hR : Wd (at0 R)) : betw (u :: L) R = if u.1 = 5 ∧ at0 R ≠ 5 then 1 else 0 := by
  have hu := h u (List.mem_cons_self ..)
  have hK := spk_words h
  have e6 : (at0 (spk (u :: L)) == 6) = false := by rw [beq_eq_false_iff_ne]; omega
  have e19 : (at0 (spk (u :: L)) == 19) = false := by rw [beq_eq_false_iff_ne]; omega
  have eo : opnL (spk (u :: L)) = false := (clsL_22 (by omega)).2
  have ec : clsL R = false := (clsL_22 (by unfold Wd at hR; omega)).1
  have ez : zw0 (u :: L) = false := hu.2
  unfold betw
  simp only [e6, e19, eo, ec, ez, Bool.false_and]
  refine rul_words hu.1 hR _ _ _ _ _ _ _ _ _ _ _ _ _ _ _ _ _ _ ?_
  intro h27
  have h27 : u.1 = 27 := h27
  simp [num, h27]
def WordsAt (cls : Int → Int) : Int → List Int → List Int → Prop
  | _, [], [] => True
  | a, x :: l, v :: t => v = (if cls a = 5 ∧ cls x ≠ 5 then 1 else 0) ∧ WordsAt cls x l t
  | _, _, _ => False
def WordsOf (cls : Int → Int) : Int → List Int → Prop
  | _, [] => True
  | a, x :: l => (Wd (cls x) ∨ cls x = 9 ∧ cls a ≠ 5) ∧ WordsOf cls x l
theorem chF_words : ∀ (L : List U) (u : U) (a : Int) (l : List Int), (∀ v ∈ u :: L, GoodU v) → (u.1 = 5 ↔ cls a = 5) → WordsOf cls a l → WordsAt cls a l (chF cls wd L u l)
  | L, u, a, [], _, _, _ => trivial
  | L, u, a, x :: l, h, ha, hw => by
    obtain ⟨hx, hw⟩ := hw
    have hu := h u (List.mem_cons_self ..)
    have hu1 := hu.1
    unfold Wd at hu1
    simp only [chF]
    rcases hx with hx | ⟨hx, hx2⟩
    · have hm : mark (cls x) = false := by unfold Wd at hx; simp [mark]; omega
      have hq : (nw cls wd x).1 = cls x := by simp [nw, hm]
      rw [if_neg (by simp [hm])]
      refine ⟨?_, chF_words _ _ x l ?_ (by rw [hq]) hw⟩
      · rw [betw_words h (by rw [at0_unF, hq]; exact hx), at0_unF, hq]
        simp only [ha]
      · intro v hv
        rcases List.mem_cons.1 hv with rfl | hv
        · refine ⟨by rw [hq]; exact hx, ?_⟩
          simp only [nw, beq_eq_false_iff_ne]
          unfold Wd at hx; omega
        · exact h v hv
    · have h5 : u.1 ≠ 5 := fun e => hx2 (ha.1 e)
      have hs : spaced u.1 = false := by simp [spaced]; omega
      rw [if_pos (by simp [mark, hx, hs])]
      refine ⟨by rw [if_neg (fun e => hx2 e.1)], chF_words _ _ x l ?_ ?_ hw⟩
      · intro v hv
        rcases List.mem_cons.1 hv with rfl | hv
        · exact ⟨hu.1, by simp [upd, hx]⟩
        · exact h v (List.mem_cons_of_mem _ hv)
      · simp only [upd]; omega
theorem brk_words (x : Int) (l : List Int) (hx : Wd (cls x)) (hw : WordsOf cls x l) : ∃ t, brk cls wd (x :: l) = 0 :: (t ++ [2]) ∧ t.length = l.length ∧ WordsAt cls x l t := by
  have hm : mark (cls x) = false := by unfold Wd at hx; simp [mark]; omega
  have hq : (nw cls wd x).1 = cls x := by simp [nw, hm]
  refine ⟨_, brk_chF x l, chF_len .., chF_words _ _ x l ?_ (by rw [hq]) hw⟩
  intro v hv
  rcases List.mem_cons.1 hv with rfl | hv
  · refine ⟨by rw [hq]; exact hx, ?_⟩
    simp only [nw, beq_eq_false_iff_ne]
    unfold Wd at hx; omega
  · cases hv
end
end Sg
