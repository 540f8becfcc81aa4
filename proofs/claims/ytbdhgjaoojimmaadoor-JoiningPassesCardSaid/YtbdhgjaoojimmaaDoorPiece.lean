/-
  Two tables tell the same of every character if they do at the ends of their rows: texts alone.
-/
import Derived.Test.YtbdhgjaoojimmaaDoorFind
namespace Go.Proofs.YtbdhgjaoojimmaaDoor
open Go Go.RowKit

/-- where a table may turn: each row's first, and the one behind its last -/
def cutsT (t : List (Int × Int × Int)) : List Int := t.flatMap fun x => [x.1, x.2.1 + 1]

theorem findL_piece (t : List (Int × Int × Int)) (r p o : Int) (h : ∀ c ∈ cutsT t, c ≤ r ↔ c ≤ p) : findL t r o = findL t p o := by
  induction t with
  | nil => rfl
  | cons x t ih =>
    have h1 : x.1 ≤ r ↔ x.1 ≤ p := h _ (by simp [cutsT])
    have h2 : x.2.1 + 1 ≤ r ↔ x.2.1 + 1 ≤ p := h _ (by simp [cutsT])
    have h3 := ih (fun c hc => h c (by
      have e : cutsT (x :: t) = [x.1, x.2.1 + 1] ++ cutsT t := rfl
      rw [e]; exact List.mem_append_right _ hc))
    rw [findL, findL, h3]
    by_cases hc : x.1 ≤ r ∧ r ≤ x.2.1
    · rw [if_pos hc, if_pos (by omega)]
    · rw [if_neg hc, if_neg (by omega)]

/-- the greatest of these that is no greater -/
def below? : List Int → Int → Option Int
  | [], _ => none
  | c :: l, r => match below? l r with
    | none => if c ≤ r then some c else none
    | some d => if c ≤ r ∧ d < c then some c else some d

theorem below_none (l : List Int) (r : Int) (h : below? l r = none) : ∀ c ∈ l, ¬ c ≤ r := by
  induction l with
  | nil => intro c hc; cases hc
  | cons x l ih =>
    intro c hc
    rw [below?] at h
    cases hb : below? l r with
    | none =>
      rw [hb] at h
      have hx : ¬ x ≤ r := by
        intro hx
        simp [hx] at h
      rcases List.mem_cons.1 hc with rfl | hc
      · exact hx
      · exact ih hb c hc
    | some d =>
      rw [hb] at h
      simp only [] at h
      split at h <;> cases h

theorem below_some (l : List Int) (r d : Int) (h : below? l r = some d) : d ∈ l ∧ d ≤ r ∧ ∀ c ∈ l, c ≤ r → c ≤ d := by
  induction l generalizing d with
  | nil => cases h
  | cons x l ih =>
    rw [below?] at h
    cases hb : below? l r with
    | none =>
      rw [hb] at h
      simp only [] at h
      by_cases hx : x ≤ r
      · rw [if_pos hx] at h
        injection h with h
        subst h
        refine ⟨by simp, hx, fun c hc hcr => ?_⟩
        rcases List.mem_cons.1 hc with rfl | hc
        · exact Int.le_refl _
        · exact absurd hcr (below_none l r hb c hc)
      · rw [if_neg hx] at h; cases h
    | some e =>
      rw [hb] at h
      obtain ⟨h1, h2, h3⟩ := ih e hb
      simp only [] at h
      by_cases hx : x ≤ r ∧ e < x
      · rw [if_pos hx] at h
        injection h with h
        subst h
        refine ⟨by simp, hx.1, fun c hc hcr => ?_⟩
        rcases List.mem_cons.1 hc with rfl | hc
        · exact Int.le_refl _
        · have := h3 c hc hcr; omega
      · rw [if_neg hx] at h
        injection h with h
        subst h
        refine ⟨by simp [h1], h2, fun c hc hcr => ?_⟩
        rcases List.mem_cons.1 hc with rfl | hc
        · omega
        · exact h3 c hc hcr

/-- a function of a character that turns at these places alone -/
def TurnsAt (f : Int → Int) (l : List Int) : Prop := ∀ r p, (∀ c ∈ l, c ≤ r ↔ c ≤ p) → f r = f p

theorem findL_turns (t : List (Int × Int × Int)) (o : Int) : TurnsAt (fun r => findL t r o) (cutsT t) := fun r p h => findL_piece t r p o h

theorem TurnsAt.more {f : Int → Int} {l m : List Int} (h : TurnsAt f l) (hm : ∀ c ∈ l, c ∈ m) : TurnsAt f m := fun r p hc => h r p (fun c hl => hc c (hm c hl))

/-- TWO THAT TURN AT THESE PLACES ALONE ARE THE SAME IF THEY ARE THERE, AND AHEAD OF ALL -/
theorem same_of_turns {f g : Int → Int} {l : List Int} (hf : TurnsAt f l) (hg : TurnsAt g l) (low : Int) (hlow : ∀ c ∈ l, low < c) (h0 : f low = g low) (hl : ∀ c ∈ l, f c = g c) (r : Int) : f r = g r := by
  cases hb : below? l r with
  | none =>
    have h1 := below_none l r hb
    have h2 : ∀ c ∈ l, c ≤ r ↔ c ≤ low := fun c hc => ⟨fun h => absurd h (h1 c hc), fun h => by have := hlow c hc; omega⟩
    rw [hf r low h2, hg r low h2, h0]
  | some d =>
    obtain ⟨h1, h2, h3⟩ := below_some l r d hb
    have h4 : ∀ c ∈ l, c ≤ r ↔ c ≤ d := fun c hc => ⟨fun h => h3 c hc h, fun h => by omega⟩
    rw [hf r d h4, hg r d h4, hl d h1]
end Go.Proofs.YtbdhgjaoojimmaaDoor
