/-
  The classes of a text's units.
-/
import Derived.Test.YtdbimchiecdkoaaSP
namespace Go.Proofs.Ytdbimchiecdkoaa
open Go Go.RowKit Sg
set_option linter.unusedVariables false
set_option linter.unusedSimpArgs false
theorem findL_in : ∀ (T : List (Int × Int × Int)) (r o : Int), (T.all fun x => decide (0 ≤ x.2.2) && decide (x.2.2 ≤ 37)) = true → 0 ≤ o → o ≤ 37 → 0 ≤ findL T r o ∧ findL T r o ≤ 37
  | [], _, o, _, h0, h1 => ⟨h0, h1⟩
  | x :: T, r, o, hT, h0, h1 => by
    rw [List.all_cons, Bool.and_eq_true, Bool.and_eq_true, decide_eq_true_eq, decide_eq_true_eq] at hT
    unfold findL
    split
    · exact hT.1
    · exact findL_in T r o hT.2 h0 h1
theorem breakC_in (r : Int) : 0 ≤ breakC r ∧ breakC r ≤ 37 := by
  rw [break_eq]
  unfold breakS
  split
  · omega
  · split
    · split <;> omega
    · exact findL_in _ _ _ (by kernel_rfl) (by omega) (by omega)
def clF (alone : Bool) : List Int → List Int
  | [] => []
  | x :: l => if Sg.mark (breakC x) = true then (if alone then 0 else 39) :: clF false l else breakC x :: clF (spaced (breakC x)) l
theorem clF_cons (b : Bool) (x : Int) (l : List Int) : clF b (x :: l) = if Sg.mark (breakC x) = true then (if b then 0 else 39) :: clF false l else breakC x :: clF (spaced (breakC x)) l := rfl
theorem clF_len : ∀ (l : List Int) (b : Bool), (clF b l).length = l.length
  | [], _ => rfl
  | x :: l, b => by unfold clF; split <;> simp [clF_len l]
theorem clF_lay : ∀ (rest : List Int) (l cl : List Int) (u : U) (p n : Nat), Un l cl p n u → l.drop (p + n + 1) = rest → cl.drop (p + n + 1) = clF (spaced u.1) rest → cl.length = l.length → LR l cl p (unF breakC wdC u rest)
  | [], l, cl, u, p, n, hu, hl, hc, hlen => by
    have := un_lt hu
    exact ⟨n, hu, by have := List.drop_eq_nil_iff.1 hl; show p + n + 1 = l.length; omega⟩
  | x :: rest, l, cl, u, p, n, hu, hl, hc, hlen => by
    have hlx : l[p + n + 1]? = some x := by rw [← List.head?_drop, hl]; rfl
    have hlt : l.drop (p + n + 1 + 1) = rest := by rw [← List.tail_drop, hl]; rfl
    have hx := breakC_in x
    unfold unF
    by_cases hm : Sg.mark (breakC x) = true
    · by_cases hs : spaced u.1 = true
      · rw [if_neg (by rw [hm, hs]; decide)]
        rw [clF_cons, if_pos hm, hs, if_pos rfl] at hc
        have hcx : cl[p + n + 1]? = some 0 := by rw [← List.head?_drop, hc]; rfl
        have hct : cl.drop (p + n + 1 + 1) = clF false rest := by rw [← List.tail_drop, hc]; rfl
        have hnw : (nw breakC wdC x).1 = 0 := by unfold nw; rw [if_pos hm]
        refine ⟨n, hu, clF_lay rest l cl (nw breakC wdC x) (p + n + 1) 0 ⟨rfl, by rw [hnw]; exact hcx, hlx, fun i h1 h2 => by omega, ⟨x, hlx, rfl⟩, rfl, by rw [hnw]; omega, by rw [hnw]; omega⟩ hlt (by rw [hnw]; exact hct) hlen⟩
      · have hs' : spaced u.1 = false := by simpa using hs
        rw [if_pos (by rw [hm, hs']; decide)]
        rw [clF_cons, if_pos hm, hs', if_neg (by decide)] at hc
        have hcx : cl[p + n + 1]? = some 39 := by rw [← List.head?_drop, hc]; rfl
        have hct : cl.drop (p + n + 1 + 1) = clF false rest := by rw [← List.tail_drop, hc]; rfl
        obtain ⟨h1, h2, h3, h4, h5, h6, h7⟩ := hu
        refine clF_lay rest l cl (upd breakC u x) p (n + 1) ⟨by show u.2.2.1 + 1 = _; omega, h2, h3, fun i hi hi2 => ?_, ⟨x, by rw [show p + (n + 1) = p + n + 1 by omega]; exact hlx, rfl⟩, h6, h7⟩ hlt (by show _ = clF (spaced u.1) rest; rw [hs']; exact hct) hlen
        by_cases e : i = n + 1
        · rw [e, show p + (n + 1) = p + n + 1 by omega]; exact hcx
        · exact h4 i hi (by omega)
    · have hm' : Sg.mark (breakC x) = false := by simpa using hm
      rw [if_neg (by rw [hm']; simp)]
      rw [clF_cons, if_neg hm] at hc
      have hcx : cl[p + n + 1]? = some (breakC x) := by rw [← List.head?_drop, hc]; rfl
      have hct : cl.drop (p + n + 1 + 1) = clF (spaced (breakC x)) rest := by rw [← List.tail_drop, hc]; rfl
      have hnw : (nw breakC wdC x).1 = breakC x := by unfold nw; rw [if_neg hm]
      exact ⟨n, hu, clF_lay rest l cl (nw breakC wdC x) (p + n + 1) 0 ⟨rfl, by rw [hnw]; exact hcx, hlx, fun i h1 h2 => by omega, ⟨x, hlx, rfl⟩, rfl, by rw [hnw]; exact hx.1, by rw [hnw]; exact hx.2⟩ hlt (by rw [hnw]; exact hct) hlen⟩
theorem uns_lay (l : List Int) : LR l (clF true l) 0 (uns breakC wdC l) := by
  cases l with
  | nil => rfl
  | cons x l =>
    have hx := breakC_in x
    unfold uns
    by_cases hm : Sg.mark (breakC x) = true
    · have hnw : (nw breakC wdC x).1 = 0 := by unfold nw; rw [if_pos hm]
      have hc : clF true (x :: l) = 0 :: clF false l := by rw [clF_cons, if_pos hm, if_pos rfl]
      exact clF_lay l (x :: l) (clF true (x :: l)) (nw breakC wdC x) 0 0 ⟨rfl, by rw [hnw, hc]; rfl, rfl, fun i h1 h2 => by omega, ⟨x, rfl, rfl⟩, rfl, by rw [hnw]; omega, by rw [hnw]; omega⟩ rfl (by rw [hnw, hc]; rfl) (clF_len _ _)
    · have hnw : (nw breakC wdC x).1 = breakC x := by unfold nw; rw [if_neg hm]
      have hc : clF true (x :: l) = breakC x :: clF (spaced (breakC x)) l := by rw [clF_cons, if_neg hm]
      exact clF_lay l (x :: l) (clF true (x :: l)) (nw breakC wdC x) 0 0 ⟨rfl, by rw [hnw, hc]; rfl, rfl, fun i h1 h2 => by omega, ⟨x, rfl, rfl⟩, rfl, by rw [hnw]; exact hx.1, by rw [hnw]; exact hx.2⟩ rfl (by rw [hnw, hc]; rfl) (clF_len _ _)
theorem textOf_L1 {N : Nat} {l : List Int} {x11 x21 : Int} (h1 : ∀ c, 0 ≤ c → c ≤ 63 → pHasC N x11 c = some (Sg.mark c)) (h2 : ∀ c, 0 ≤ c → c ≤ 63 → pHasC N x21 c = some (spaced c)) (hl : l.length ≤ 1000000000) :
    ∀ (f i : Nat) (out : List Int) (b : Bool), l.length - i < f → i ≤ l.length → out.length = l.length → pTextOf_L1 N l x11 x21 f out b (i : Int) = some (out.take i ++ clF b (l.drop i))
  | 0, i, out, b, h, _, _ => by omega
  | f + 1, i, out, b, hf, hi, ho => by
    unfold pTextOf_L1
    by_cases h : i < l.length
    · have hx : ix l (i : Int) = some l[i] := ix_of (by omega) (by omega) (by simp [h])
      have hb := breakC_in l[i]
      have hu : ucBk N l[i] = some (breakC l[i]) := rfl
      have hs : ∀ v, setx out (i : Int) v = some (out.set i v) := fun v => by unfold setx; rw [if_pos ⟨by omega, by omega⟩]; simp
      have ho' : ix out (i : Int) = some out[i] := ix_of (by omega) (by omega) (by simp [ho, h])
      have ht : ∀ v (t : List Int), (out.set i v).take (i + 1) ++ t = out.take i ++ v :: t := by
        intro v t
        rw [List.take_add_one]
        simp [ho, h, List.take_set_of_le]
      rw [if_pos (by omega), hx, Option.bind_some, hu, Option.bind_some, h1 _ hb.1 (by omega), Option.bind_some, w64s (by omega) (by omega), show (i : Int) + 1 = ((i + 1 : Nat) : Int) by omega, List.drop_eq_getElem_cons h]
      have ih := fun v b' => textOf_L1 h1 h2 hl f (i + 1) (out.set i v) b' (by omega) h (by simpa using ho)
      cases hm : Sg.mark (breakC l[i]) with
      | true =>
        cases b with
        | true => simp only [ho', Option.bind_some, hs, ih, ht]; rw [clF_cons, if_pos hm, if_pos rfl]
        | false => simp only [ho', Option.bind_some, hs, ih, ht]; rw [clF_cons, if_pos hm, if_neg (by decide)]
      | false => simp only [h2 _ hb.1 (Int.le_trans hb.2 (by decide)), ho', Option.bind_some, hs, ih, ht]; rw [clF_cons, if_neg (by rw [hm]; decide)]
    · rw [if_neg (by omega), List.drop_eq_nil_of_le (by omega), List.take_of_length_le (by omega)]
      simp [clF]
theorem pTextOf_ly {N : Nat} {l : List Int} (hN : 60 ≤ N) (hN2 : l.length + 2 ≤ N) (hl : l.length ≤ 1000000000) : pTextOf N l = some (clF true l) := by
  unfold pTextOf
  have i1 : In63 [9, 10] := by intro c hc; simp at hc; omega
  have i2 : In63 [1, 2, 3, 4, 5, 6] := by intro c hc; simp at hc; omega
  have e1 := pSetOf_eq (N := N) i1 (by simp) (by simp; omega)
  have e2 := pSetOf_eq (N := N) i2 (by simp) (by simp; omega)
  rw [e1, Option.bind_some, e2, Option.bind_some]
  have em : mkx (l.length : Int) = some (List.replicate l.length 0) := by unfold mkx; rw [if_pos ⟨by omega, by omega⟩]; simp
  rw [em, Option.bind_some]
  have := textOf_L1 (N := N) (l := l) (fun c h0 h1 => by rw [pHas_eq (N' := N) i1 (by simp) (by simp; omega) e1 h0 h1]; congr 1; rw [Bool.eq_iff_iff]; simp [Sg.mark])
    (fun c h0 h1 => by rw [pHas_eq (N' := N) i2 (by simp) (by simp; omega) e2 h0 h1]; congr 1; rw [Bool.eq_iff_iff]; simp [spaced]; omega) hl N 0 (List.replicate l.length 0) true (by omega) (by omega) (by simp)
  rw [show ((0 : Nat) : Int) = 0 from rfl] at this
  rw [this]
  simp
end Go.Proofs.Ytdbimchiecdkoaa
