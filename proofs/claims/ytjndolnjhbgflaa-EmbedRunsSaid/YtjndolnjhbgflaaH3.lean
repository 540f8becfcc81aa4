/-
  Places, runs, and what leads to what: sequences by lists.
-/
import Derived.Test.YtjndolnjhbgflaaH1
import Derived.Test.YtjndolnjhbgflaaH2
namespace Go.Proofs.Ytjndolnjhbgflaa
open Go Go.RowKit
set_option linter.unusedVariables false
set_option linter.unusedSectionVars false
set_option linter.unusedSimpArgs false

theorem take_succ_e (l : List Int) (j : Nat) (h : j < l.length) : l.take (j + 1) = l.take j ++ [l.getD j 0] := by
  rw [List.take_succ_eq_append_getElem h, List.getD_eq_getElem?_getD, List.getElem?_eq_getElem h]; rfl

/-- the places of what is not removed -/
def plcF : Nat → List Int → List Nat
  | _, [] => []
  | i, c :: r => if isRem c = true then plcF (i + 1) r else i :: plcF (i + 1) r
def plc (l : List Int) : List Nat := plcF 0 l
/-- how many are not removed ahead of a place -/
def cnt (l : List Int) (i : Nat) : Nat := ((l.take i).filter fun c => !isRem c).length
def plP (l : List Int) (k : Nat) : Nat := (plc l).getD k 0

theorem plcF_len : ∀ (l : List Int) (i : Nat), (plcF i l).length = (l.filter fun c => !isRem c).length
  | [], _ => rfl
  | c :: r, i => by
    rw [plcF, List.filter_cons]
    cases h : isRem c with
    | true => simp [plcF_len r]
    | false => simp [plcF_len r]
theorem plcF_app : ∀ (a b : List Int) (i : Nat), plcF i (a ++ b) = plcF i a ++ plcF (i + a.length) b
  | [], b, i => by simp [plcF]
  | c :: a, b, i => by
    rw [List.cons_append, plcF, plcF, plcF_app a b (i + 1), List.length_cons, show i + 1 + a.length = i + (a.length + 1) by omega]
    split <;> rfl
theorem cnt_len (l : List Int) : cnt l l.length = (plc l).length := by unfold cnt plc; rw [plcF_len, List.take_length]
theorem cnt_all (l : List Int) (i : Nat) : (plc (l.take i)).length = cnt l i := by unfold cnt plc; rw [plcF_len]
theorem cnt_mono (l : List Int) {i j : Nat} (h : i ≤ j) : cnt l i ≤ cnt l j := by
  unfold cnt
  have : l.take i = (l.take j).take i := by rw [List.take_take, Nat.min_eq_left h]
  rw [this]
  exact (List.Sublist.filter _ (List.take_sublist _ _)).length_le
theorem cnt_succ (l : List Int) {i : Nat} (h : i < l.length) : cnt l (i + 1) = cnt l i + (if isRem (l.getD i 0) = true then 0 else 1) := by
  unfold cnt
  rw [take_succ_e l i h, List.filter_append, List.length_append]
  generalize l.getD i 0 = c
  cases hr : isRem c <;> simp [hr]
theorem cnt_lt (l : List Int) {i j : Nat} (h : i < j) (hi : i < l.length) (hr : isRem (l.getD i 0) = false) : cnt l i < cnt l j := by
  have := cnt_succ l hi
  rw [hr] at this
  have h2 := cnt_mono l (show i + 1 ≤ j by omega)
  simp at this
  omega

theorem plcF_at : ∀ (l : List Int) (i k : Nat), k < (plcF i l).length → ∃ q, (plcF i l).getD k 0 = i + q ∧ q < l.length ∧ isRem (l.getD q 0) = false ∧ cnt l q = k
  | [], _, _, h => by simp [plcF] at h
  | c :: r, i, k, h => by
    rw [plcF] at h ⊢
    have hc : ∀ q, cnt (c :: r) (q + 1) = cnt r q + (if isRem c = true then 0 else 1) := by
      intro q
      unfold cnt
      rw [List.take_succ_cons, List.filter_cons]
      cases isRem c <;> simp
    cases hr : isRem c with
    | true =>
      rw [hr, if_pos rfl] at h
      rw [if_pos rfl]
      obtain ⟨q, h1, h2, h3, h4⟩ := plcF_at r (i + 1) k h
      refine ⟨q + 1, by rw [h1]; omega, by simp; omega, h3, ?_⟩
      rw [hc, hr, if_pos rfl, h4]; rfl
    | false =>
      rw [hr, if_neg (by decide)] at h
      rw [if_neg (by decide)]
      cases k with
      | zero => exact ⟨0, rfl, by simp, hr, rfl⟩
      | succ k =>
        obtain ⟨q, h1, h2, h3, h4⟩ := plcF_at r (i + 1) k (by simpa using h)
        refine ⟨q + 1, by rw [List.getD_cons_succ, h1]; omega, by simp; omega, h3, ?_⟩
        rw [hc, hr, if_neg (by decide), h4]
theorem plcF_cnt : ∀ (l : List Int) (i q : Nat), q < l.length → isRem (l.getD q 0) = false → (plcF i l)[cnt l q]? = some (i + q)
  | [], _, _, h, _ => by simp at h
  | c :: r, i, q, h, hr => by
    cases q with
    | zero =>
      have hr : isRem c = false := hr
      rw [plcF, hr, if_neg (by decide)]
      rfl
    | succ q =>
      have ih := plcF_cnt r (i + 1) q (by simpa using h) hr
      have hc : cnt (c :: r) (q + 1) = cnt r q + (if isRem c = true then 0 else 1) := by
        unfold cnt
        rw [List.take_succ_cons, List.filter_cons]
        cases isRem c <;> simp
      rw [plcF, hc]
      cases isRem c with
      | true =>
        rw [if_pos rfl, if_pos rfl]
        show (plcF (i + 1) r)[cnt r q]? = _
        rw [ih]; congr 1; omega
      | false => rw [if_neg (by decide), if_neg (by decide), List.getElem?_cons_succ, ih]; congr 1; omega

theorem P_at {l : List Int} {k : Nat} (h : k < (plc l).length) : plP l k < l.length ∧ isRem (l.getD (plP l k) 0) = false ∧ cnt l (plP l k) = k := by
  obtain ⟨q, h1, h2, h3, h4⟩ := plcF_at l 0 k h
  have : plP l k = q := by unfold plP plc; rw [h1]; omega
  rw [this]
  exact ⟨h2, h3, h4⟩
theorem P_cnt {l : List Int} {q : Nat} (h : q < l.length) (hr : isRem (l.getD q 0) = false) : cnt l q < (plc l).length ∧ plP l (cnt l q) = q := by
  have := plcF_cnt l 0 q h hr
  obtain ⟨h1, h2⟩ := List.getElem?_eq_some_iff.1 this
  refine ⟨h1, ?_⟩
  unfold plP plc
  rw [List.getD_eq_getElem?_getD, this]
  simp
theorem P_lt {l : List Int} {k k' : Nat} (h' : k' < (plc l).length) (hk : k < k') : plP l k < plP l k' := by
  obtain ⟨a1, a2, a3⟩ := P_at (l := l) (k := k) (by omega)
  obtain ⟨b1, b2, b3⟩ := P_at h'
  rcases Nat.lt_or_ge (plP l k) (plP l k') with h | h
  · exact h
  · have := cnt_mono l h
    omega
theorem P_inj {l : List Int} {k k' : Nat} (h : k < (plc l).length) (h' : k' < (plc l).length) (e : plP l k = plP l k') : k = k' := by
  have a := (P_at h).2.2
  have b := (P_at h').2.2
  rw [e] at a
  omega

section
variable (l n : List Int) (b : Int)
/-- the level of a place; the paragraph's behind them -/
def lvN (k : Nat) : Int := if k < (plc l).length then n.getD (plP l k) 0 else b
def prevL (k : Nat) : Int := if k = 0 then b else lvN l n b (k - 1)
def begB (k : Nat) : Bool := decide (k = 0 ∨ lvN l n b k ≠ lvN l n b (k - 1))
def onB (k : Nat) : Bool := decide (k + 1 < (plc l).length ∧ lvN l n b k = lvN l n b (k + 1))
/-- what a place leads to -/
def scI (k : Nat) : Option Nat := if k < (plc l).length then (if onB l n b k = true then some (k + 1) else match cl l (plP l k) with
    | some v => if begB l n b (cnt l v) = true then some (cnt l v) else none
    | none => none) else none
def sideS (a c : Int) : Int := if Int.tmod (if a < c then c else a) 2 = 1 then 2 else 1
def eosI (k : Nat) : Int := sideS (lvN l n b k) (if isInit (l.getD (plP l k) 0) = true ∧ cl l (plP l k) = none then b else lvN l n b (k + 1))
def mkS (B h : Nat) : List Int × Int × Int × Int := ((walk (scI l n b) B h).map (fun k => ((plP l k : Nat) : Int)), lvN l n b h, sideS (lvN l n b h) (prevL l n b h), eosI l n b (lst (walk (scI l n b) B h)))
/-- the sequences -/
def seqsS : List (List Int × Int × Int × Int) := (hd (scI l n b) (plc l).length).map (mkS l n b (plc l).length)
end

section
variable {l n : List Int} {b : Int}
theorem cl_cnt {k v : Nat} (hk : k < (plc l).length) (h : cl l (plP l k) = some v) : k < cnt l v ∧ cnt l v < (plc l).length ∧ plP l (cnt l v) = v := by
  obtain ⟨h1, h2, h3, h4⟩ := cl_at h
  obtain ⟨a1, a2⟩ := P_cnt h3 (by rw [h4]; rfl)
  obtain ⟨b1, b2, b3⟩ := P_at hk
  have := cnt_lt l h2 b1 b2
  exact ⟨by omega, a1, a2⟩
theorem sc_lt : ∀ k j, scI l n b k = some j → k < j ∧ j < (plc l).length := by
  intro k j h
  unfold scI at h
  split at h
  · rename_i hk
    split at h
    · rename_i ho
      injection h with h
      have := (of_decide_eq_true ho).1
      omega
    · split at h
      · rename_i v hv
        have := cl_cnt hk hv
        split at h
        · injection h with h; omega
        · cases h
      · cases h
  · cases h
theorem sc_s : ∀ k j, scI l n b k = some j → k < j := fun k j h => (sc_lt k j h).1
theorem sc_two {k j : Nat} (h : scI l n b k = some j) : k < (plc l).length ∧ ((j = k + 1 ∧ begB l n b j = false) ∨ (∃ v, cl l (plP l k) = some v ∧ j = cnt l v ∧ begB l n b j = true)) := by
  unfold scI at h
  split at h
  · rename_i hk
    refine ⟨hk, ?_⟩
    split at h
    · rename_i ho
      injection h with h
      have := of_decide_eq_true ho
      refine .inl ⟨h.symm, ?_⟩
      rw [← h]
      unfold begB
      rw [decide_eq_false]
      intro e
      rcases e with e | e
      · omega
      · exact e this.2.symm
    · split at h
      · rename_i v hv
        split at h
        · rename_i hb
          injection h with h
          exact .inr ⟨v, hv, h.symm, by rw [← h]; exact hb⟩
        · cases h
      · cases h
  · cases h
theorem sc_inj : ∀ i i' j, scI l n b i = some j → scI l n b i' = some j → i = i' := by
  intro i i' j h h'
  obtain ⟨k1, a⟩ := sc_two h
  obtain ⟨k2, a'⟩ := sc_two h'
  rcases a with ⟨a, ab⟩ | ⟨v, a, av, ab⟩
  · rcases a' with ⟨a', _⟩ | ⟨v', a', av', ab'⟩
    · omega
    · rw [ab] at ab'; cases ab'
  · rcases a' with ⟨a', ab'⟩ | ⟨v', a', av', ab'⟩
    · rw [ab] at ab'; cases ab'
    · have e : v = v' := by
        rw [← (cl_cnt k1 a).2.2, ← (cl_cnt k2 a').2.2, ← av, ← av']
      subst e
      exact P_inj k1 k2 (cl_inj a a')
theorem sc_on {k : Nat} (h : k + 1 < (plc l).length) (he : lvN l n b k = lvN l n b (k + 1)) : scI l n b k = some (k + 1) := by
  unfold scI
  rw [if_pos (by omega), if_pos (by unfold onB; exact decide_eq_true ⟨h, he⟩)]
theorem sc_end {k : Nat} (hk : k < (plc l).length) (h : onB l n b k = false) : scI l n b k = match cl l (plP l k) with
    | some v => if begB l n b (cnt l v) = true then some (cnt l v) else none
    | none => none := by
  unfold scI
  rw [if_pos hk, if_neg (by rw [h]; decide)]
end
end Go.Proofs.Ytjndolnjhbgflaa
