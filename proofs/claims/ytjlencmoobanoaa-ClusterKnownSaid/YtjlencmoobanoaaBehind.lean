/-
  ClusterBehind, on lists: behind an LF, and behind a letter, the clusters are those of what stands there alone.
-/
import Derived.Test.YtjlencmoobanoaaAlone
import Derived.Test.YtjlencmoobanoaaWorks3
namespace Go.Proofs.Ytjlencmoobanoaa
open Go Go.RowKit

theorem bf_append (L : List Nat) : ∀ (M : List Nat) p k, boundFrom p (L ++ M) k = boundFrom p L k ++ boundFrom (L.foldl withS p) M (k + L.length) := by
  induction L with
  | nil => intro M p k; rfl
  | cons c L ih =>
    intro M p k
    rw [List.cons_append, boundFrom, boundFrom, ih, List.foldl_cons, List.append_assoc, List.length_cons, show k + 1 + L.length = k + (L.length + 1) by omega]

theorem bf_shift (L : List Nat) : ∀ p k d, boundFrom p L (k + d) = (boundFrom p L k).map (· + d) := by
  induction L with
  | nil => intro p k d; rfl
  | cons c L ih =>
    intro p k d
    rw [boundFrom, boundFrom, List.map_append, ← ih, show k + d + 1 = k + 1 + d by omega]
    cases partS p c <;> rfl

theorem fit_fold (L : List Nat) : (∀ c ∈ L, c < 14) → ∀ p, Fit p → Fit (L.foldl withS p) ∧ (L.foldl withS p).last = L.getLast?.getD p.last := by
  induction L with
  | nil => intro _ p hp; exact ⟨hp, rfl⟩
  | cons c L ih =>
    intro hL p hp
    have := ih (fun x hx => hL x (by simp [hx])) (withS p c) (look p hp c (hL c (by simp))).1
    refine ⟨this.1, ?_⟩
    rw [List.getLast?_cons]
    exact this.2

theorem sep_look : ((List.range 14).all fun a => [false, true].all fun pi => [false, true].all fun j => [false, true].all fun o =>
    !fitB a pi j o || ((partS ⟨a, pi, j, o⟩ 2 == !(a == 1)) && (a == 7 || partS ⟨a, pi, j, o⟩ 0))) = true := by kernel_rfl

theorem sep (p : PastS) (hp : Fit p) : (partS p 2 = !(p.last == 1)) ∧ (p.last ≠ 7 → partS p 0 = true) := by
  obtain ⟨a, pi, j, o⟩ := p
  obtain ⟨ha, hf⟩ := hp
  have h1 := List.all_eq_true.1 sep_look a (List.mem_range.2 ha)
  have h3 := List.all_eq_true.1 h1 pi (by cases pi <;> simp)
  have h4 := List.all_eq_true.1 h3 j (by cases j <;> simp)
  have h5 := List.all_eq_true.1 h4 o (by cases o <;> simp)
  have hf' : fitB a pi j o = true := hf
  rw [hf'] at h5
  simp only [Bool.not_true, Bool.false_or, Bool.and_eq_true, beq_iff_eq, Bool.or_eq_true] at h5
  refine ⟨h5.1, fun h7 => ?_⟩
  rcases h5.2 with h | h
  · exact absurd h h7
  · exact h

theorem two_look : ((List.range 14).all fun d => partS ⟨2, false, false, false⟩ d && (d == 4 || d == 5 || partS ⟨0, false, false, false⟩ d)) = true := by kernel_rfl

/-- what may stand between -/
def Sep (A B : List Nat) (m : Nat) : Prop := m = 2 ∨ (m = 0 ∧ A.getLast? ≠ some 7 ∧ B.head? ≠ some 4 ∧ B.head? ≠ some 5)

def midL (A : List Nat) (m : Nat) : List Nat := if m = 2 ∧ A.getLast? = some 1 then [] else [A.length]

theorem behind_tail (A B : List Nat) (m : Nat) (hB : ∀ c ∈ B, c < 14) (hm : Sep A B m) (p : PastS) (hp : Fit p) (k : Nat) : boundFrom (withS p m) B (k + 1) = (boundsL B).map (· + (k + 1)) := by
  cases B with
  | nil => rfl
  | cons d B =>
    have hm14 : m < 14 := by rcases hm with rfl | ⟨rfl, _⟩ <;> decide
    have hf := (look p hp m hm14).1
    have hd : d < 14 := hB d (by simp)
    have h2 := List.all_eq_true.1 two_look d (List.mem_range.2 hd)
    simp only [Bool.and_eq_true, Bool.or_eq_true, beq_iff_eq] at h2
    have hpt : partS (withS p m) d = true := by
      rcases hm with rfl | ⟨rfl, _, h4, h5⟩
      · have e : withS p 2 = ⟨2, false, false, false⟩ := by simp [withS]
        rw [e]; exact h2.1
      · have e : withS p 0 = ⟨0, false, false, false⟩ := by simp [withS]
        rw [e]
        rcases h2.2 with (h | h) | h
        · subst h; exact absurd rfl h4
        · subst h; exact absurd rfl h5
        · exact h
    have hw := ((look _ hf d hd).2.1 hpt).1
    rw [boundFrom, hpt, if_pos rfl, hw, boundsL, List.map_cons, Nat.zero_add, show k + 1 + 1 = 1 + (k + 1) by omega, bf_shift]
    rfl

theorem behind (A B : List Nat) (m : Nat) (hA : ∀ c ∈ A, c < 14) (hB : ∀ c ∈ B, c < 14) (hm : Sep A B m) : boundsL (A ++ m :: B) = boundsL A ++ midL A m ++ (boundsL B).map (· + (A.length + 1)) := by
  cases A with
  | nil =>
    show 0 :: boundFrom (withS past0 m) B 1 = _
    rw [behind_tail [] B m hB hm past0 ⟨by decide, by decide⟩ 0]
    simp [boundsL, midL]
  | cons c A =>
    have hq0 := fit0 c (hA c (by simp))
    obtain ⟨hfit, hlast⟩ := fit_fold A (fun x hx => hA x (by simp [hx])) _ hq0
    have hl2 : (c :: A).getLast? = some (A.foldl withS (withS past0 c)).last := by
      rw [List.getLast?_cons, hlast]; rfl
    obtain ⟨s1, s2⟩ := sep _ hfit
    show 0 :: boundFrom (withS past0 c) (A ++ m :: B) 1 = _
    rw [bf_append, boundFrom, behind_tail (c :: A) B m hB hm _ hfit]
    have hmid : (if partS (A.foldl withS (withS past0 c)) m then [1 + A.length] else []) = midL (c :: A) m := by
      unfold midL
      rw [hl2, List.length_cons, Nat.add_comm 1]
      rcases hm with rfl | ⟨rfl, h7, _, _⟩
      · rw [s1]
        by_cases h : (A.foldl withS (withS past0 c)).last = 1
        · rw [h]; simp
        · have h' : ((A.foldl withS (withS past0 c)).last == 1) = false := by simpa using h
          rw [h']; simp [h]
      · have hp : partS (A.foldl withS (withS past0 c)) 0 = true := s2 fun h => h7 (by rw [hl2, h])
        rw [if_pos hp, if_neg (fun hh => absurd hh.1 (by decide))]
    rw [hmid, List.length_cons, boundsL, Nat.add_comm 1 A.length, List.cons_append, List.cons_append, List.append_assoc]

theorem bf_lt (L : List Nat) : ∀ p k, ∀ x ∈ boundFrom p L k, x < k + L.length := by
  induction L with
  | nil => intro p k x hx; cases hx
  | cons c L ih =>
    intro p k x hx
    rw [boundFrom] at hx
    rcases List.mem_append.1 hx with h | h
    · split at h
      · rw [List.mem_singleton.1 h]; simp
      · cases h
    · have := ih _ _ x h
      simp; omega

theorem bounds_lt (L : List Nat) : ∀ x ∈ boundsL L, x < L.length := by
  intro x hx
  cases L with
  | nil => cases hx
  | cons c L =>
    rcases List.mem_cons.1 hx with rfl | h
    · simp
    · have := bf_lt L _ _ x h
      simp; omega

theorem bounds_len (L : List Nat) : (boundsL L).length ≤ L.length := by
  cases L with
  | nil => exact Nat.le_refl _
  | cons c L =>
    have := boundFrom_len L (withS past0 c) 1
    simp [boundsL]; omega

/-! ### the classes of CR, LF, x -/

def isCR (r : Int) : Bool := decide (13 ≤ r) && decide (r ≤ 13)

theorem isCR_turns : TurnsB isCR [13, 14] := by
  intro r p h
  have h1 := h 13 (by simp)
  have h2 := h 14 (by simp)
  unfold isCR
  have e1 : decide (13 ≤ r) = decide (13 ≤ p) := by simp [h1]
  have e2 : decide (r ≤ 13) = decide (p ≤ 13) := by simp only [decide_eq_decide]; omega
  rw [e1, e2]

/-- the table, and what is known of these three -/
structure TabB (T : List (Int × Int × Int)) : Prop where
  tab : TabC T
  cr : ∀ r, clsN T r = 1 ↔ r = 13
  lf : clsN T 10 = 2
  x : clsN T 120 = 0

theorem cr_is (r : Int) : clsN (tableOf Try.f27) r = 1 ↔ r = 13 := by
  have e : clusterS (tableOf Try.f27) r = clusterSb (openB r) (tableOf Try.f27) r := rfl
  have h : ∀ b : Bool, (if clusterSb b (tableOf Try.f27) r == 1 then (1 : Int) else 0) = (if isCR r then 1 else 0) := by
    intro b
    have ht : TurnsAt (fun r => if clusterSb b (tableOf Try.f27) r == 1 then (1 : Int) else 0) (docT (tableOf Try.f27)) := by
      intro r p h
      have := clusterSb_turns b (tableOf Try.f27) r p h
      show (if clusterSb b (tableOf Try.f27) r == 1 then (1 : Int) else 0) = (if clusterSb b (tableOf Try.f27) p == 1 then (1 : Int) else 0)
      rw [this]
    have hg : TurnsAt (fun r => if isCR r then (1 : Int) else 0) [13, 14] := TurnsAt.ite isCR_turns (TurnsAt.const _ _) (TurnsAt.const _ _)
    cases b with
    | true => exact same_all ht hg (by kernel_rfl) (by kernel_rfl) r
    | false => exact same_all ht hg (by kernel_rfl) (by kernel_rfl) r
  have h' := h (openB r)
  rw [← e] at h'
  have hb := cls_ok r
  have hcr : isCR r = true ↔ r = 13 := by unfold isCR; simp only [Bool.and_eq_true, decide_eq_true_eq]; omega
  rw [← hcr]
  unfold clsN
  cases hc : isCR r with
  | true =>
    rw [hc] at h'
    by_cases h1 : (clusterS (tableOf Try.f27) r == 1) = true
    · have := eq_of_beq h1
      rw [this]; simp
    · rw [if_neg h1] at h'; simp at h'
  | false =>
    rw [hc] at h'
    by_cases h1 : (clusterS (tableOf Try.f27) r == 1) = true
    · rw [if_pos h1] at h'; simp at h'
    · have : clusterS (tableOf Try.f27) r ≠ 1 := fun h => h1 (by rw [h]; rfl)
      simp only [Bool.false_eq_true, iff_false]
      omega

theorem tabB : ∃ T, TabB T := ⟨_, tabD, cr_is, by kernel_rfl, by kernel_rfl⟩
end Go.Proofs.Ytjlencmoobanoaa
