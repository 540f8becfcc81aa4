/-
  SegmentMarks, by lists.
-/
import Derived.Test.YtdbimchiecdkoaaGreatSV
import Derived.Test.YtdbimchiecdkoaaGreatSg3
import Derived.Test.YtdbimchiecdkoaaGreatFMarks
namespace Go.Proofs.YtdbimchiecdkoaaGreat
open Go Go.RowKit Sg
set_option linter.unusedVariables false
set_option linter.unusedSimpArgs false
abbrev nwC (x : Int) : U := nw breakC wdC x
abbrev effC (u : U) (l : List Int) : U := eff breakC wdC u l
def effAt (l : List Int) (i : Nat) : U := effC (nwC (l.getD 0 0)) ((l.drop 1).take i)
theorem eff_app : ∀ (u : U) (l : List Int) (x : Int), effC u (l ++ [x]) = if (Sg.mark (breakC x) && !spaced (effC u l).1) = true then upd breakC (effC u l) x else nwC x
  | u, [], x => by simp [eff]
  | u, y :: l, x => by
    simp only [List.cons_append, effC, eff]
    split
    · exact eff_app _ l x
    · exact eff_app _ l x
theorem effAt_succ {l : List Int} {i : Nat} (h : i + 1 < l.length) : effAt l (i + 1) = if (Sg.mark (breakC (l.getD (i + 1) 0)) && !spaced (effAt l i).1) = true then upd breakC (effAt l i) (l.getD (i + 1) 0) else nwC (l.getD (i + 1) 0) := by
  unfold effAt
  have h1 : (l.drop 1)[i]? = some (l.getD (i + 1) 0) := by rw [List.getElem?_drop, show 1 + i = i + 1 by omega]; exact getD_some h
  have : (l.drop 1).take (i + 1) = (l.drop 1).take i ++ [l.getD (i + 1) 0] := by rw [List.take_add_one, h1]; rfl
  rw [this, eff_app]
theorem effAt_zw {l : List Int} {i : Nat} (h : i < l.length) : (effAt l i).2.2.2.1 = (breakC (l.getD i 0) == 10) := by
  cases i with
  | zero => unfold effAt; simp [eff, nw]
  | succ i => rw [effAt_succ h]; split <;> rfl
def befC (before c : Int) : Int := if c = 9 then (if before ≠ 9 then before else if c = 10 then before else c) else if c = 10 then before else c
theorem spaced_iff (c : Int) : spaced c = true ↔ c = 1 ∨ c = 2 ∨ c = 3 ∨ c = 4 ∨ c = 5 ∨ c = 6 := by simp [spaced, or_assoc]
theorem bef_inv {l : List Int} {i : Nat} {before : Int} (h : i < l.length) (h0 : i = 0 → spaced before = true) (h1 : ∀ j, i = j + 1 → spaced (effAt l j).1 = true → spaced before = true) :
    spaced (effAt l i).1 = true → spaced (befC before (breakC (l.getD i 0))) = true := by
  intro hs
  have base : ∀ c, Sg.mark c = true → c = 9 ∨ c = 10 := by intro c hc; simpa [Sg.mark] using hc
  generalize hc : breakC (l.getD i 0) = c
  have bef : Sg.mark c = false → befC before c = c := by
    intro hm
    have : c ≠ 9 ∧ c ≠ 10 := by simpa [Sg.mark] using hm
    unfold befC; rw [if_neg this.1, if_neg this.2]
  cases hm : Sg.mark c with
  | false =>
    rw [bef hm]
    have hn : (nwC (l.getD i 0)).1 = c := by simp only [nw, hc, hm]; rfl
    cases i with
    | zero =>
      have : effAt l 0 = nwC (l.getD 0 0) := by unfold effAt; simp [eff]
      rw [this, hn] at hs; exact hs
    | succ j =>
      rw [effAt_succ h, hc, hm] at hs
      simp only [Bool.false_and, Bool.false_eq_true, if_false] at hs
      rw [hn] at hs; exact hs
  | true =>
    have hn : (nwC (l.getD i 0)).1 = 0 := by simp only [nw, hc, hm]; rfl
    exfalso
    cases i with
    | zero =>
      have : effAt l 0 = nwC (l.getD 0 0) := by unfold effAt; simp [eff]
      rw [this, hn] at hs; exact absurd hs (by decide)
    | succ j =>
      rw [effAt_succ h, hc, hm] at hs
      by_cases hsp : spaced (effAt l j).1 = true
      · rw [hsp] at hs
        simp only [Bool.true_and, Bool.not_true, Bool.false_eq_true, if_false] at hs
        rw [hn] at hs; exact absurd hs (by decide)
      · have hsp' : spaced (effAt l j).1 = false := by simpa using hsp
        rw [hsp'] at hs
        simp only [Bool.true_and, Bool.not_false, if_true] at hs
        have : (upd breakC (effAt l j) (l.getD (j + 1) 0)).1 = (effAt l j).1 := rfl
        rw [this, hsp'] at hs
        cases hs
def GoodP (l : List Int) (y : Int) : Prop := ∃ k : Nat, y = (k : Int) ∧ k < l.length ∧ spaced (effAt l k).1 = false ∧ (effAt l k).2.2.2.1 = false
theorem mark_L1 {N : Nat} {l : List Int} (hl : l.length ≤ 400) (hr : ∀ x ∈ l, i32b x = true) : ∀ (f i : Nat) (out : List Int) (before : Int), i ≤ l.length → l.length - i < f → out.length ≤ i → (i = 0 → spaced before = true) → (∀ j, i = j + 1 → spaced (effAt l j).1 = true → spaced before = true) → (∀ y ∈ out, GoodP l y) →
    ∃ r, fMarks_L1 N l f out before (i : Int) = some r ∧ r.length ≤ 400 ∧ ∀ y ∈ r, GoodP l y
  | 0, i, out, before, _, h, _, _, _, _ => by omega
  | f + 1, i, out, before, hi, hf, ho, h0, h1, hg => by
    unfold fMarks_L1
    by_cases h : i < l.length
    · have hx := getD_some h
      have hrf : rfBk N (l.getD i 0) = some (breakC (l.getD i 0)) := by unfold rfBk; rw [if_pos (hr _ (List.mem_iff_getElem?.2 ⟨i, hx⟩))]
      have e : IntKind.i64.wrap ((i : Int) + 1) = ((i + 1 : Nat) : Int) := by rw [w64s (by omega) (by omega)]; omega
      have inv := bef_inv h h0 h1
      have hbef : ∀ c : Int, ((if c = 9 then (if before ≠ 9 then some (before) else (if c = 10 then some (before) else some (c))) else (if c = 10 then some (before) else some (c))) : Option (Int)) = some (befC before c) := by
        intro c; unfold befC; repeat' split
        all_goals rfl
      rw [if_pos (by omega), ix_nat hx, Option.bind_some, hrf, Option.bind_some, hbef, Option.bind_some]
      simp only [e]
      have hzw := effAt_zw h
      generalize breakC (l.getD i 0) = c at *
      generalize befC before c = d at *
      have hsp : ((((if d = 1 then some (true) else (if d = 2 then some (true) else some (false))) : Option (Bool)).bind fun b82 => (((match b82 with | true => some (true) | false => (if d = 3 then some (true) else some (false))) : Option (Bool)).bind fun b92 => (((match b92 with | true => some (true) | false => (if d = 4 then some (true) else some (false))) : Option (Bool)).bind fun b101 => (match b101 with | true => some (true) | false => (if d = 5 then some (true) else (if d = 6 then some (true) else some (false))))))) : Option (Bool)) = some (spaced d) := by
        by_cases d1 : d = 1
        · subst d1; rfl
        by_cases d2 : d = 2
        · subst d2; rfl
        by_cases d3 : d = 3
        · subst d3; rfl
        by_cases d4 : d = 4
        · subst d4; rfl
        by_cases d5 : d = 5
        · subst d5; rfl
        by_cases d6 : d = 6
        · subst d6; rfl
        have : spaced d = false := by
          cases hs : spaced d with
          | false => rfl
          | true => have := (spaced_iff d).1 hs; omega
        rw [this]
        simp [d1, d2, d3, d4, d5, d6]
      have next : ∀ out', (∀ y ∈ out', GoodP l y) → out'.length ≤ i + 1 → ∃ r, fMarks_L1 N l f out' d ((i + 1 : Nat) : Int) = some r ∧ r.length ≤ 400 ∧ ∀ y ∈ r, GoodP l y := fun out' h2 h3 =>
        mark_L1 (N := N) hl hr f (i + 1) out' d (by omega) (by omega) h3 (fun h => by omega) (fun j hj hs => by
          have e' : i = j := by omega
          subst e'
          exact inv hs) h2
      obtain ⟨B, hB⟩ : ∃ B, B = spaced d := ⟨_, rfl⟩
      refine Eq.mp (congrArg (fun z : Option (List Int) => ∃ r, z = some r ∧ r.length ≤ 400 ∧ ∀ y ∈ r, GoodP l y) (congrArg (fun z => Option.bind z _) (Eq.trans hsp (congrArg some hB.symm))).symm) ?_
      rw [Option.bind_some]
      cases B with
      | true => exact next out hg (by omega)
      | false =>
        simp only [ix_nat hx, Option.bind_some, hrf]
        by_cases hc : c = 10
        · rw [if_neg (fun h => h hc)]; exact next out hg (by omega)
        · rw [if_pos hc, apx_ok (by simp; omega), Option.bind_some]
          refine next (out ++ [(i : Int)]) (fun y hy => ?_) (by simp; omega)
          rcases List.mem_append.1 hy with hy | hy
          · exact hg y hy
          · rw [List.mem_singleton.1 hy]
            refine ⟨i, rfl, h, ?_, by rw [hzw]; simpa using hc⟩
            cases hs : spaced (effAt l i).1 with
            | false => rfl
            | true => rw [inv hs] at hB; cases hB
    · rw [if_neg (by omega)]
      exact ⟨out, rfl, by omega, hg⟩
theorem mark_L2 {N : Nat} {l A B : List Int} {k : Nat} (hl : l.length ≤ 400) (hk : k < l.length) (h : ∀ i, i ≤ l.length → ∃ v, A[i]? = some v ∧ B[if k < i then i + 1 else i]? = some v) : ∀ (f i : Nat), l.length + 1 - i < f → fMarks_L2 N l (k : Int) A B f (i : Int) = some (Ctl.go ())
  | 0, i, h => by omega
  | f + 1, i, hf => by
    unfold fMarks_L2
    by_cases hi : i ≤ l.length
    · obtain ⟨v, h1, h2⟩ := h i hi
      have ih := mark_L2 (N := N) hl hk h f (i + 1) (by omega)
      have e : IntKind.i64.wrap ((i : Int) + 1) = ((i + 1 : Nat) : Int) := by rw [w64s (by omega) (by omega)]; omega
      rw [if_pos (by omega), e, ih]
      by_cases hki : k < i
      · rw [if_pos hki] at h2
        rw [if_pos (by omega), Option.bind_some, ix_nat h1, Option.bind_some, ix_nat h2, Option.bind_some, if_neg (fun h => h rfl)]
      · rw [if_neg hki] at h2
        rw [if_neg (by omega), Option.bind_some, ix_nat h1, Option.bind_some, ix_nat h2, Option.bind_some, if_neg (fun h => h rfl)]
    · rw [if_neg (by omega)]
theorem fMarks_true {N : Nat} {l : List Int} {which : Int} (hN : 2000 ≤ N) (hr : ∀ x ∈ l, i32b x = true) (h0 : 0 ≤ which) (h1 : which ≤ 65535) : fMarks N l which = some true := by
  unfold fMarks
  rw [kWorks_true (by omega)]
  by_cases h : (l.length : Int) > 300
  · rw [if_pos h]; rfl
  obtain ⟨r, e1, hlen, hg⟩ := mark_L1 (N := N) (l := l) (by omega) hr N 0 [] 5 (by omega) (by omega) (by simp) (fun _ => by decide) (fun j hj => by omega) (by simp)
  rw [show ((0 : Nat) : Int) = 0 from rfl] at e1
  rw [if_neg h, e1, Option.bind_some]
  by_cases hz : (r.length : Int) = 0
  · rw [if_pos hz]; rfl
  rw [if_neg hz, if_neg hz]
  obtain ⟨y, hy, hyr⟩ : ∃ y, ix r (Int.tmod (IntKind.i64.wrap which) (r.length : Int)) = some y ∧ y ∈ r := by
    rw [w64s (by omega) (by omega), Int.tmod_eq_emod_of_nonneg h0]
    have a1 := Int.emod_nonneg which hz
    have a2 := Int.emod_lt_of_pos which (show (0 : Int) < r.length by omega)
    obtain ⟨q, hq⟩ : ∃ q : Nat, which % (r.length : Int) = (q : Int) := ⟨(which % (r.length : Int)).toNat, by omega⟩
    rw [hq] at a2 ⊢
    have hq' := getD_some (l := r) (i := q) (by omega)
    exact ⟨_, ix_nat hq', List.mem_iff_getElem?.2 ⟨q, hq'⟩⟩
  obtain ⟨k, rfl, hk, g1, g2⟩ := hg y hyr
  rw [hy, Option.bind_some]
  cases l with
  | nil => simp at hk
  | cons x t =>
  simp only [List.length_cons] at h hk
  have ew : IntKind.i64.wrap ((k : Int) + 1) = ((k + 1 : Nat) : Int) := by rw [w64s (by omega) (by omega)]; omega
  have c1 : cutx (x :: t) 0 ((k + 1 : Nat) : Int) = some ((x :: t).take (k + 1)) := by
    unfold cutx; rw [if_pos ⟨by omega, by omega, by simp; omega⟩]; simp
  have c2 : cutx (x :: t) ((k + 1 : Nat) : Int) (((x :: t).length : Nat) : Int) = some ((x :: t).drop (k + 1)) := by
    unfold cutx; rw [if_pos ⟨by omega, by simp; omega, by omega⟩]; simp
  rw [ew, c1, Option.bind_some, apx_ok (by simp; omega), Option.bind_some, apx_ok (by simp; omega), Option.bind_some, c2, Option.bind_some, apx_ok (by simp; omega), Option.bind_some]
  have em : [] ++ (x :: t).take (k + 1) ++ [769] ++ (x :: t).drop (k + 1) = x :: (t.take k ++ 769 :: t.drop k) := by simp
  rw [em]
  have hm := brk_mark (cls := breakC) (wd := wdC) (m := 769) (by kernel_rfl) x (t.take k) (t.drop k) g1 g2
  rw [List.take_append_drop, List.length_take, Nat.min_eq_left (by omega)] at hm
  have hlb := brk_len' (x :: t)
  have hlm := brk_len' (x :: (t.take k ++ 769 :: t.drop k))
  have hl1 : (x :: (t.take k ++ 769 :: t.drop k)).length = t.length + 2 := by simp; omega
  have hl2 : (x :: t).length = t.length + 1 := rfl
  rw [pBreaks_ly (by omega) (by omega) (by omega), Option.bind_some, pBreaks_ly (by omega) (by omega) (by omega), Option.bind_some, hlb, hlm, hl1, hl2, w64s (by omega) (by omega), w64s (by omega) (by omega), if_neg (by omega), if_neg (by omega)]
  have g0 : (brk breakC wdC (x :: (t.take k ++ 769 :: t.drop k)))[k + 1]? = some 0 := by
    rw [hm, List.getElem?_append_right (by simp; omega), List.length_take, hlb, hl2, Nat.min_eq_left (by omega), Nat.sub_self]; rfl
  simp only [Option.bind_some]
  rw [ix_nat g0]
  simp only [Option.bind_some]
  rw [if_neg (by decide)]
  have L2 := mark_L2 (N := N) (l := x :: t) (A := brk breakC wdC (x :: t)) (B := brk breakC wdC (x :: (t.take k ++ 769 :: t.drop k))) (k := k) (by simp; omega) (by simp; omega) (fun i hi => by
    have hb := getD_some (l := brk breakC wdC (x :: t)) (i := i) (by omega)
    refine ⟨_, hb, ?_⟩
    rw [hm]
    by_cases hki : k < i
    · rw [if_pos hki, List.getElem?_append_right (by simp; omega), List.length_take, hlb, hl2, Nat.min_eq_left (by omega), show i + 1 - (k + 1) = (i - k - 1) + 1 by omega, List.getElem?_cons_succ, List.getElem?_drop, show k + 1 + (i - k - 1) = i by omega]
      exact hb
    · rw [if_neg hki, List.getElem?_append_left (by simp; omega), List.getElem?_take_of_lt (by omega)]
      exact hb) N 0 (by simp; omega)
  rw [show ((0 : Nat) : Int) = 0 from rfl] at L2
  simp only [Option.bind_some]
  rw [L2]
  rfl
end Go.Proofs.YtdbimchiecdkoaaGreat
