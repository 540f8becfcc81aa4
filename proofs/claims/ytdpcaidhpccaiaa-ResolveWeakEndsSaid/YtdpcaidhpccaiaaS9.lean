/-
  ResolveWeakEnds is true, by lists: what is left behind the rules.
-/
import Derived.Test.YtdpcaidhpccaiaaS8
import Derived.Test.YtdpcaidhpccaiaaFWeakEnds
namespace Go.Proofs.Ytdpcaidhpccaiaa
open Go Go.RowKit
set_option linter.unusedVariables false
set_option linter.unusedSectionVars false
set_option linter.unusedSimpArgs false

/-! ### side and Arabic, class by class -/
def nxS (s c : Int) : Int := if c = 1 ∨ c = 2 then c else if c = 3 then 2 else s
def nxU (u c : Int) : Int := if c = 1 ∨ c = 2 then 0 else if c = 3 then 1 else u
def AllW (Q : Int → Int → Int → Int → Prop) : Int → Int → List Int → List Int → Prop
  | _, _, [], [] => True
  | s, u, c :: l, x :: w => Q s u c x ∧ AllW Q (nxS s c) (nxU u c) l w
  | _, _, _, _ => False
/-- behind the rule W3 -/
def R3 (s u c x : Int) : Prop := (c = 1 → x = 1) ∧ (c = 2 → x = 2) ∧ (c = 3 → x = 2) ∧ (c = 4 → u = 0 → x = 4) ∧ (c = 4 → u ≠ 0 → x = 7) ∧ (c ≠ 1 → c ≠ 2 → c ≠ 3 → c ≠ 4 → c ≠ 9 → x = c) ∧ x ≠ 3 ∧ x ≠ 9 ∧ (x = 4 → u = 0) ∧ (c = 9 → (x = 1 ∨ x = 2) → x = s)
/-- behind the rules W4, W5 -/
def R5 (s u c x : Int) : Prop := (c = 1 → x = 1) ∧ (c = 2 → x = 2) ∧ (c = 3 → x = 2) ∧ (c = 4 → u = 0 → x = 4) ∧ (c = 4 → u ≠ 0 → x = 7) ∧ (c ≠ 1 → c ≠ 2 → c ≠ 3 → c ≠ 4 → c ≠ 5 → c ≠ 6 → c ≠ 8 → c ≠ 9 → x = c) ∧ x ≠ 3 ∧ x ≠ 9 ∧ (x = 4 → u = 0) ∧ ((c = 5 ∨ c = 6 ∨ c = 8 ∨ c = 9) → (x = 1 ∨ x = 2) → x = s)
def R6 (s u c x : Int) : Prop := R5 s u c x ∧ x ≠ 5 ∧ x ≠ 6 ∧ x ≠ 8
/-- behind all -/
def R7 (s u c x : Int) : Prop := (x ≠ 3 ∧ x ≠ 5 ∧ x ≠ 6 ∧ x ≠ 8 ∧ x ≠ 9) ∧ (x = 4 → s ≠ 1 ∧ u = 0) ∧ (c = 1 → x = 1) ∧ (c = 2 → x = 2) ∧ (c = 3 → x = 2) ∧ (c = 4 → u ≠ 0 → x = 7) ∧ (c = 4 → u = 0 → x ≠ 7 ∧ (x = 1 ↔ s = 1)) ∧ (c ≠ 1 → c ≠ 2 → c ≠ 3 → c ≠ 4 → c ≠ 5 → c ≠ 6 → c ≠ 8 → c ≠ 9 → x = c)

theorem three_ends : ∀ (l : List Int) (b s u : Int), (s = 1 ∨ s = 2) → (u ≠ 0 → s = 2) → b ≠ 9 → ((b = 1 ∨ b = 2) → b = s ∧ u = 0) → (b = 3 → u ≠ 0) →
    AllW R3 s u l (w3S (w2S (if u = 0 then s else 3) (w1S b l)))
  | [], _, _, _, _, _, _, _, _ => trivial
  | c :: l, b, s, u, hs, hu, hb, hb1, hb3 => by
    rw [w1S, w2S, w3S, List.map_cons]
    have e1 : ∃ x, x = (if c = 9 then b else c) := ⟨_, rfl⟩
    obtain ⟨x, ex⟩ := e1
    rw [← ex]
    have hx : (c = 9 ∧ x = b) ∨ (c ≠ 9 ∧ x = c) := by
      by_cases h9 : c = 9
      · rw [if_pos h9] at ex; exact .inl ⟨h9, ex⟩
      · rw [if_neg h9] at ex; exact .inr ⟨h9, ex⟩
    refine ⟨?_, ?_⟩
    · unfold R3
      by_cases hu0 : u = 0
      · rw [if_pos hu0]
        split <;> split <;> omega
      · rw [if_neg hu0]
        split <;> split <;> omega
    · have e2 : (if x = 1 ∨ x = 2 ∨ x = 3 then x else if u = 0 then s else 3) = (if nxU u c = 0 then nxS s c else 3) := by
        unfold nxU nxS
        by_cases hu0 : u = 0
        · rw [if_pos hu0]
          repeat' split
          all_goals omega
        · rw [if_neg hu0]
          repeat' split
          all_goals omega
      rw [e2]
      have e3 : ∃ y, y = (if isIso x = true then 14 else x) := ⟨_, rfl⟩
      obtain ⟨y, ey⟩ := e3
      rw [← ey]
      have hy : y = 14 ∨ y = x := by
        by_cases hi : isIso x = true
        · rw [if_pos hi] at ey; exact .inl ey
        · rw [if_neg hi] at ey; exact .inr ey
      refine three_ends l y _ _ ?_ ?_ ?_ ?_ ?_
      · unfold nxS; repeat' split
        all_goals omega
      · unfold nxS nxU; repeat' split
        all_goals omega
      · omega
      · unfold nxS nxU; repeat' split
        all_goals omega
      · unfold nxU; repeat' split
        all_goals omega

theorem four_ends : ∀ (r l : List Int) (p s u : Int), (p = 4 → u = 0) → AllW R3 s u l r → AllW R5 s u l (w4S p r)
  | [], [], _, _, _, _, _ => trivial
  | [], _ :: _, _, _, _, _, h => h.elim
  | _ :: _, [], _, _, _, _, h => h.elim
  | [x], c :: l, p, s, u, hp, h => by
    obtain ⟨h1, h2⟩ := h
    cases l with
    | cons _ _ => exact h2.elim
    | nil =>
      refine ⟨?_, trivial⟩
      unfold R3 at h1
      unfold R5
      omega
  | x :: d :: r, c :: l, p, s, u, hp, h => by
    obtain ⟨h1, h2⟩ := h
    rw [w4S]
    have hb : betw p x d = x ∨ (x = 5 ∨ x = 8) ∧ betw p x d = p ∧ (p = 4 ∨ p = 7) := by
      unfold betw
      split
      · rename_i e
        right
        omega
      · exact .inl rfl
    have h5 : R5 s u c (betw p x d) := by
      unfold R3 at h1
      unfold R5
      omega
    refine ⟨h5, four_ends (d :: r) l _ _ _ ?_ h2⟩
    intro e
    unfold R5 at h5
    unfold nxU
    split
    · rfl
    · split <;> omega
theorem fourT_ends (r l : List Int) (s u : Int) (h : AllW R3 s u l r) : AllW R5 s u l (w4T r) := by
  cases r with
  | nil => exact four_ends [] l 0 s u (by omega) h
  | cons x r =>
    cases l with
    | nil => exact h.elim
    | cons c l =>
      obtain ⟨h1, h2⟩ := h
      rw [w4T]
      have h5 : R5 s u c x := by
        unfold R3 at h1
        unfold R5
        omega
      refine ⟨h5, four_ends r l x _ _ ?_ h2⟩
      intro e
      unfold R5 at h5
      unfold nxU
      split
      · rfl
      · split <;> omega
theorem next_ends : ∀ (r l : List Int) (s u : Int), AllW R5 s u l r → nextEN r = true → u = 0
  | [], _, _, _, _, h => by cases h
  | x :: r, [], _, _, h, _ => h.elim
  | x :: r, c :: l, s, u, h, hn => by
    obtain ⟨h1, h2⟩ := h
    rw [nextEN] at hn
    unfold R5 at h1
    by_cases h6 : x = 6
    · rw [if_pos h6] at hn
      have := next_ends r l _ _ h2 hn
      unfold nxU at this
      rw [if_neg (by omega), if_neg (by omega)] at this
      exact this
    · rw [if_neg h6] at hn
      have := of_decide_eq_true hn
      omega
theorem five_ends : ∀ (r l : List Int) (p s u : Int), (p = 4 → u = 0) → AllW R5 s u l r → AllW R5 s u l (w5S p r)
  | [], [], _, _, _, _, _ => trivial
  | [], _ :: _, _, _, _, _, h => h.elim
  | _ :: _, [], _, _, _, _, h => h.elim
  | x :: r, c :: l, p, s, u, hp, h => by
    obtain ⟨h1, h2⟩ := h
    rw [w5S]
    have hn : x = 6 → nextEN r = true → u = 0 := by
      intro h6 hn
      have := next_ends r l _ _ h2 hn
      unfold R5 at h1
      unfold nxU at this
      rw [if_neg (by omega), if_neg (by omega)] at this
      exact this
    have e1 : ∃ y, y = (if x = 6 ∧ (p = 4 ∨ nextEN r = true) then 4 else x) := ⟨_, rfl⟩
    obtain ⟨y, ey⟩ := e1
    rw [← ey]
    have hy : y = x ∨ x = 6 ∧ y = 4 ∧ u = 0 := by
      by_cases q : x = 6 ∧ (p = 4 ∨ nextEN r = true)
      · rw [if_pos q] at ey
        exact .inr ⟨q.1, ey, q.2.elim hp (hn q.1)⟩
      · rw [if_neg q] at ey
        exact .inl ey
    have h5 : R5 s u c y := by
      rcases hy with hy | ⟨h6, hy, hu⟩
      · rw [hy]; exact h1
      · rw [hy]
        rw [h6] at h1
        unfold R5 at h1 ⊢
        omega
    clear ey hn hp
    refine ⟨h5, five_ends r l y _ _ ?_ h2⟩
    intro e
    unfold R5 at h5
    unfold nxU
    split
    · rfl
    · split <;> omega
theorem six_ends : ∀ (r l : List Int) (s u : Int), AllW R5 s u l r → AllW R6 s u l (w6S r)
  | [], [], _, _, _ => trivial
  | [], _ :: _, _, _, h => h.elim
  | _ :: _, [], _, _, h => h.elim
  | x :: r, c :: l, s, u, h => by
    obtain ⟨h1, h2⟩ := h
    rw [w6S, List.map_cons]
    refine ⟨?_, six_ends r l _ _ h2⟩
    unfold R6
    unfold R5 at h1 ⊢
    split <;> omega
theorem seven_ends : ∀ (r l : List Int) (s u : Int), (s = 1 ∨ s = 2) → AllW R6 s u l r → AllW R7 s u l (w7S s r)
  | [], [], _, _, _, _ => trivial
  | [], _ :: _, _, _, _, h => h.elim
  | _ :: _, [], _, _, _, h => h.elim
  | x :: r, c :: l, s, u, hs, h => by
    obtain ⟨h1, h2⟩ := h
    unfold R6 R5 at h1
    rw [w7S]
    have e : (if x = 1 ∨ x = 2 then x else s) = nxS s c := by
      unfold nxS
      repeat' split
      all_goals omega
    rw [e]
    refine ⟨?_, seven_ends r l _ _ ?_ h2⟩
    · unfold R7
      split <;> omega
    · unfold nxS
      repeat' split
      all_goals omega
theorem row_ends (l : List Int) (s : Int) (hs : s = 1 ∨ s = 2) : AllW R7 s 0 l (rowW s l) := by
  unfold rowW
  have h3 := three_ends l s s 0 hs (by omega) (by omega) (by omega) (by omega)
  rw [if_pos rfl] at h3
  exact seven_ends _ _ _ _ hs (six_ends _ _ _ _ (five_ends _ _ 0 _ _ (by omega) (fourT_ends _ _ _ _ h3)))
theorem merge_ends : ∀ (l r : List Int) (s u : Int), AllW R7 s u (noBN l) r → AllW R7 s u l (mergeB l r)
  | [], [], _, _, _ => trivial
  | [], _ :: _, _, _, h => h.elim
  | c :: l, r, s, u, h => by
    by_cases hc : c = 10
    · subst hc
      rw [mergeB_bn]
      have hs : nxS s 10 = s := by unfold nxS; rw [if_neg (by omega), if_neg (by omega)]
      have hu : nxU u 10 = u := by unfold nxU; rw [if_neg (by omega), if_neg (by omega)]
      refine ⟨?_, ?_⟩
      · unfold R7; omega
      · rw [hs, hu]
        exact merge_ends l r s u h
    · have e : noBN (c :: l) = c :: noBN l := by unfold noBN; rw [List.filter_cons, if_pos (by simpa using hc)]
      rw [e] at h
      cases r with
      | nil => exact h.elim
      | cons x r =>
        rw [mergeB_no hc]
        exact ⟨h.1, merge_ends l r _ _ h.2⟩
theorem weakS_ends (l : List Int) (s : Int) : AllW R7 (sosS s) 0 l (weakS l s) := merge_ends l _ _ _ (row_ends _ _ (sosS_any s))

theorem AllW_len (Q : Int → Int → Int → Int → Prop) : ∀ (l w : List Int) (s u : Int), AllW Q s u l w → l.length = w.length
  | [], [], _, _, _ => rfl
  | [], _ :: _, _, _, h => h.elim
  | _ :: _, [], _, _, h => h.elim
  | c :: l, x :: w, s, u, h => by rw [List.length_cons, List.length_cons, AllW_len Q l w _ _ h.2]

theorem fWeakEnds_loop (N : Nat) (p0 w : List Int) (hp : p0.length ≤ 3000) (hw : w.length = p0.length) : ∀ (k i : Nat) (s : Int) (u : Bool), p0.length - i < k → i ≤ p0.length → (s = 1 ∨ s = 2) → AllW R7 s (if u = true then 1 else 0) (p0.drop i) (w.drop i) →
    fWeakEnds_L1 N p0 w k s u (i : Int) = some (Ctl.go ())
  | 0, _, _, _, h, _, _, _ => absurd h (Nat.not_lt_zero _)
  | k + 1, i, s, u, hk, hi, hs, h => by
    unfold fWeakEnds_L1
    by_cases hlt : i < p0.length
    · rw [drop_e hlt, drop_e (show i < w.length by omega)] at h
      have ih := fun s u => fWeakEnds_loop N p0 w hp hw k (i + 1) s u (by omega) (by omega)
      rw [if_pos (by omega), ixe (show i < w.length by omega), ixe hlt, wne i (by omega)]
      generalize p0.getD i 0 = c at h ⊢
      generalize w.getD i 0 = x at h ⊢
      obtain ⟨h1, h2⟩ := h
      unfold R7 at h1
      simp only [Option.bind_some, if_neg h1.1.1, if_neg h1.1.2.1, if_neg h1.1.2.2.1, if_neg h1.1.2.2.2.1, if_neg h1.1.2.2.2.2]
      have h4 : (if x = 4 then (if s = 1 then some (Ctl.ret false) else (match (generalizing := false) u with | true => some (Ctl.ret false) | false => some (Ctl.go ()))) else some (Ctl.go ()) : Option (Ctl Unit Bool)) = some (Ctl.go ()) := by
        by_cases q : x = 4
        · have := h1.2.1 q
          rw [if_pos q, if_neg this.1]
          cases u with
          | true => exact absurd this.2 (by decide)
          | false => rfl
        · rw [if_neg q]
      have ih2 : ∀ (s' : Int) (u' : Bool), (s' = 1 ∨ s' = 2) → nxS s c = s' → nxU (if u = true then 1 else 0) c = (if u' = true then 1 else 0) → fWeakEnds_L1 N p0 w k s' u' ((i + 1 : Nat) : Int) = some (Ctl.go ()) := by
        intro s' u' g1 g2 g3
        rw [g2, g3] at h2
        exact ih s' u' g1 h2
      clear ih h2
      by_cases c1 : c = 1
      · have e := h1.2.2.1 c1
        subst c1 e
        have := ih2 1 false (.inl rfl) rfl rfl
        cases u <;> simpa using this
      by_cases c2 : c = 2
      · have e := h1.2.2.2.1 c2
        subst c2 e
        have := ih2 2 false (.inr rfl) rfl rfl
        cases u <;> simpa using this
      by_cases c3 : c = 3
      · have e := h1.2.2.2.2.1 c3
        subst c3 e
        have := ih2 2 true (.inr rfl) rfl rfl
        cases u <;> simpa using this
      have g2 : nxS s c = s := by unfold nxS; rw [if_neg (by omega), if_neg c3]
      have g3 : ∀ v, nxU v c = v := by intro v; unfold nxU; rw [if_neg (by omega), if_neg c3]
      have ih3 := ih2 s u hs g2 (g3 _)
      by_cases c4 : c = 4
      · subst c4
        cases u with
        | true =>
          have e := h1.2.2.2.2.2.1 rfl (by decide)
          subst e
          simpa using ih3
        | false =>
          have e := h1.2.2.2.2.2.2.1 rfl (by decide)
          simp only [] at h4
          by_cases s1 : s = 1
          · have := e.2.mpr s1
            subst s1 this
            simpa using ih3
          · have : x ≠ 1 := fun q => s1 (e.2.mp q)
            simp only [if_neg s1] at h4 ⊢
            have e4 : (if x = 4 then some (Ctl.go ()) else some (Ctl.go ()) : Option (Ctl Unit Bool)) = some (Ctl.go ()) := by split <;> rfl
            simpa [e.1, this, e4] using ih3
      by_cases c5 : c = 5 ∨ c = 6 ∨ c = 8 ∨ c = 9
      · have h6 := h1.2.1
        clear h4 h1
        cases u with
        | true =>
          have q4 : x ≠ 4 := fun e => absurd (h6 e).2 (by decide)
          rcases c5 with q | q | q | q <;> subst q <;> simpa [q4] using ih3
        | false =>
          by_cases q4 : x = 4
          · have s1 := (h6 q4).1
            rcases c5 with q | q | q | q <;> subst q <;> simpa [q4, s1] using ih3
          · rcases c5 with q | q | q | q <;> subst q <;> simpa [q4] using ih3
      · have e : x = c := h1.2.2.2.2.2.2.2 c1 c2 c3 c4 (by omega) (by omega) (by omega) (by omega)
        subst e
        have q5 : x ≠ 5 := by omega
        have q6 : x ≠ 6 := by omega
        have q8 : x ≠ 8 := by omega
        have q9 : x ≠ 9 := by omega
        cases u <;> simpa [c1, c2, c3, c4, q5, q6, q8, q9] using ih3
    · rw [if_neg (by omega)]

theorem fWeakEnds_N (N : Nat) (hN : 10000 ≤ N) (l : List Int) (s : Int) : fWeakEnds N l s = some true := by
  unfold fWeakEnds
  by_cases h : 3000 < l.length
  · rw [if_pos (by omega), kArabic_eq N (by omega)]
    rfl
  have hl := weakS_len l s
  rw [if_neg (by omega), pWeak_eq N l s (by omega) (by omega), Option.bind_some, if_neg (by omega)]
  have e : (if s = 2 then some 2 else some 1 : Option Int) = some (sosS s) := by unfold sosS; split <;> rfl
  have h1 := fWeakEnds_loop N l (weakS l s) (by omega) hl N 0 (sosS s) false (by omega) (Nat.zero_le _) (sosS_any s) (by rw [List.drop_zero, List.drop_zero]; exact weakS_ends l s)
  rw [show ((0 : Nat) : Int) = 0 from rfl] at h1
  rw [e, Option.bind_some, h1, Option.bind_some]
  simp only
  rw [kArabic_eq N (by omega)]
  rfl
theorem fWeakEnds_true (l : List Int) (s : Int) : ∃ N, fWeakEnds N l s = some true := ⟨10000, fWeakEnds_N 10000 (Nat.le_refl _) l s⟩
end Go.Proofs.Ytdpcaidhpccaiaa
