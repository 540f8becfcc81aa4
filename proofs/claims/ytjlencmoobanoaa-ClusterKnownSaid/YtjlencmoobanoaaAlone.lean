/-
  Behind a start all is as if what stands there stood alone: lists alone.
-/
import Derived.Test.YtjlencmoobanoaaPure
namespace Go.Proofs.Ytjlencmoobanoaa
open Go Go.RowKit

/-- flags that fit the last class -/
def fitB (a : Nat) (pi j o : Bool) : Bool := (!pi || decide (a = 13) || decide (a = 4)) && (!j || decide (a = 5)) && (!o || decide (a = 6))

def Fit (p : PastS) : Prop := p.last < 14 ∧ fitB p.last p.pict p.joined p.odd = true

theorem start_look : ((List.range 14).all fun a => (List.range 14).all fun c => [false, true].all fun pi => [false, true].all fun j => [false, true].all fun o =>
    !fitB a pi j o || (fitB c (withS ⟨a, pi, j, o⟩ c).pict (withS ⟨a, pi, j, o⟩ c).joined (withS ⟨a, pi, j, o⟩ c).odd &&
      (if partS ⟨a, pi, j, o⟩ c then ((withS ⟨a, pi, j, o⟩ c).pict == (withS past0 c).pict) && ((withS ⟨a, pi, j, o⟩ c).joined == (withS past0 c).joined) && ((withS ⟨a, pi, j, o⟩ c).odd == (withS past0 c).odd) && (!(decide (c = 4) || decide (c = 5)) || endsN a)
       else !(endsN a || endsN c) || (decide (a = 1) && decide (c = 2))))) = true := by kernel_rfl

theorem look (p : PastS) (hp : Fit p) (c : Nat) (hc : c < 14) :
    Fit (withS p c) ∧ (partS p c = true → withS p c = withS past0 c ∧ (c = 4 ∨ c = 5 → endsN p.last = true)) ∧ (partS p c = false → (endsN p.last = true ∨ endsN c = true) → p.last = 1 ∧ c = 2) := by
  obtain ⟨a, pi, j, o⟩ := p
  obtain ⟨ha, hf⟩ := hp
  have h1 := List.all_eq_true.1 start_look a (List.mem_range.2 ha)
  have h2 := List.all_eq_true.1 h1 c (List.mem_range.2 hc)
  have h3 := List.all_eq_true.1 h2 pi (by cases pi <;> simp)
  have h4 := List.all_eq_true.1 h3 j (by cases j <;> simp)
  have h5 := List.all_eq_true.1 h4 o (by cases o <;> simp)
  have hf' : fitB a pi j o = true := hf
  rw [hf'] at h5
  simp only [Bool.not_true, Bool.false_or, Bool.and_eq_true] at h5
  obtain ⟨hfit, hrest⟩ := h5
  refine ⟨⟨hc, hfit⟩, fun hpt => ?_, fun hpf he => ?_⟩
  · rw [if_pos hpt] at hrest
    simp only [Bool.and_eq_true, beq_iff_eq] at hrest
    obtain ⟨⟨⟨e1, e2⟩, e3⟩, e4⟩ := hrest
    refine ⟨?_, fun h45 => ?_⟩
    · have x : ∀ q r : PastS, q.last = r.last → q.pict = r.pict → q.joined = r.joined → q.odd = r.odd → q = r := by
        intro q r h1 h2 h3 h4; cases q; cases r; simp_all
      exact x _ _ rfl e1 e2 e3
    · rcases h45 with rfl | rfl <;> simpa using e4
  · rw [if_neg (by rw [hpf]; simp)] at hrest
    have he' : (endsN a || endsN c) = true := by
      rcases he with h | h
      · have h' : endsN a = true := h
        rw [h']; rfl
      · rw [h]; simp
    rw [he'] at hrest
    simpa using hrest

theorem fit0 (c : Nat) (hc : c < 14) : Fit (withS past0 c) := (look past0 ⟨by decide, by decide⟩ c hc).1

/-- no start: the same wherever one counts from -/
theorem none_shift (L : List Nat) : ∀ p k k', boundFrom p L k = [] → boundFrom p L k' = [] := by
  induction L with
  | nil => intro p k k' _; rfl
  | cons c L ih =>
    intro p k k' h
    rw [boundFrom] at h ⊢
    cases hq : partS p c with
    | true => rw [hq] at h; simp at h
    | false =>
      rw [hq] at h
      simp only [if_false, Bool.false_eq_true, List.nil_append] at h ⊢
      exact ih _ _ _ h

/-- the first start -/
theorem first_start (L : List Nat) (hL : ∀ c ∈ L, c < 14) : ∀ p k, Fit p →
    boundFrom p L k = [] ∨ ∃ L1 c L2, L = L1 ++ c :: L2 ∧ boundFrom p L1 k = [] ∧ boundFrom p L k = (k + L1.length) :: boundFrom (withS past0 c) L2 (k + L1.length + 1) ∧ (c = 4 ∨ c = 5 → endsN (L1.getLast?.getD p.last) = true) := by
  induction L with
  | nil => intro p k _; exact .inl rfl
  | cons c L ih =>
    intro p k hp
    obtain ⟨hf, ht, _⟩ := look p hp c (hL c (by simp))
    cases hq : partS p c with
    | true =>
      refine .inr ⟨[], c, L, rfl, rfl, ?_, (ht hq).2⟩
      rw [boundFrom, hq, if_pos rfl, (ht hq).1]
      simp
    | false =>
      have e : ∀ M k, boundFrom p (c :: M) k = boundFrom (withS p c) M (k + 1) := by
        intro M k
        rw [boundFrom, hq]; simp
      rcases ih (fun x hx => hL x (by simp [hx])) (withS p c) (k + 1) hf with h | ⟨L1, d, L2, rfl, h1, h2, h3⟩
      · exact .inl (by rw [e]; exact h)
      · refine .inr ⟨c :: L1, d, L2, rfl, by rw [e]; exact h1, ?_, ?_⟩
        · rw [e, h2]
          simp only [List.length_cons]
          rw [show k + 1 + L1.length = k + (L1.length + 1) by omega]
        · intro h
          have h4 := h3 h
          rw [List.getLast?_cons]
          exact h4

/-- an end among those that stand together: CR with LF -/
theorem pair_end (L : List Nat) (hL : ∀ c ∈ L, c < 14) : ∀ p k, Fit p → boundFrom p L k = [] → (endsN p.last = true ∨ ∃ x ∈ L, endsN x = true) → L ≠ [] → p.last = 1 ∧ L = [2] := by
  induction L with
  | nil => intro p k _ _ _ h; exact absurd rfl h
  | cons y L ih =>
    intro p k hp hb he _
    obtain ⟨hf, _, hn⟩ := look p hp y (hL y (by simp))
    have hq : partS p y = false := by
      cases hq : partS p y with
      | false => rfl
      | true => rw [boundFrom, hq] at hb; simp at hb
    have hb' : boundFrom (withS p y) L (k + 1) = [] := by
      rw [boundFrom, hq] at hb; simpa using hb
    have ihy := ih (fun x hx => hL x (by simp [hx])) (withS p y) (k + 1) hf hb'
    have hlast : (withS p y).last = y := rfl
    rw [hlast] at ihy
    by_cases hL0 : L = []
    · subst hL0
      have := hn hq (by
        rcases he with h | ⟨x, hx, h⟩
        · exact .inl h
        · simp at hx; subst hx; exact .inr h)
      exact ⟨this.1, by rw [this.2]⟩
    · exfalso
      have hy : endsN y = true ∨ ∃ x ∈ L, endsN x = true := by
        rcases he with h | ⟨x, hx, h⟩
        · have := (hn hq (.inl h)).2
          subst this
          exact .inl rfl
        · rcases List.mem_cons.1 hx with rfl | hx
          · exact .inl h
          · exact .inr ⟨x, hx, h⟩
      obtain ⟨h1, _⟩ := ihy hy hL0
      have := (hn hq (.inr (by rw [h1]; rfl))).2
      omega

/-- a piece from a start to before the next one is one cluster -/
theorem piece_one (c : Nat) (L : List Nat) (k : Nat) (h : boundFrom (withS past0 c) L k = []) : boundsL (c :: L) = [0] := by
  rw [boundsL, none_shift L _ k 1 h]
end Go.Proofs.Ytjlencmoobanoaa
