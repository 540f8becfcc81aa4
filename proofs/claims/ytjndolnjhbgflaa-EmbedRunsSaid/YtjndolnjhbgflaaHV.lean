/-
  Two rows alike in what is not removed have the same sequences.
-/
import Derived.Test.YtjndolnjhbgflaaH6
namespace Go.Proofs.Ytjndolnjhbgflaa
open Go Go.RowKit
set_option linter.unusedVariables false
set_option linter.unusedSectionVars false
set_option linter.unusedSimpArgs false

def nr (c : Int) : Bool := !isRem c
theorem cnt_cons (c : Int) (r : List Int) (q : Nat) : cnt (c :: r) (q + 1) = cnt r q + (if isRem c = true then 0 else 1) := by
  unfold cnt
  rw [List.take_succ_cons, List.filter_cons]
  cases isRem c <;> simp
theorem rem_o {c : Int} (h : isRem c = true) : c ≠ 11 ∧ c ≠ 23 ∧ isInit c = false := by
  rw [isRem_iff] at h
  refine ⟨by omega, by omega, ?_⟩
  unfold isInit
  exact decide_eq_false (by omega)
theorem nrem_11 : isRem 11 = false := rfl
theorem nrem_23 : isRem 23 = false := rfl
theorem init_nrem {c : Int} (h : isInit c = true) : isRem c = false := by
  rw [isInit_iff] at h
  unfold isRem
  exact decide_eq_false (by omega)

theorem close_keep : ∀ (r : List Int) (d : Nat), 1 ≤ d → closeR d (r.filter nr) = (closeR d r).map (cnt r)
  | [], _, _ => rfl
  | c :: r, d, hd => by
    have step : ∀ e, 1 ≤ e → isRem c = false → (closeR e (r.filter nr)).map (· + 1) = ((closeR e r).map (· + 1)).map (cnt (c :: r)) := by
      intro e he hr
      rw [close_keep r e he, Option.map_map, Option.map_map]
      congr 1
      funext o
      show cnt r o + 1 = cnt (c :: r) (o + 1)
      rw [cnt_cons, hr, if_neg (by decide)]
    cases hr : isRem c with
    | true =>
      obtain ⟨h1, h2, h3⟩ := rem_o hr
      rw [List.filter_cons_of_neg (by unfold nr; rw [hr]; decide), close_keep r d hd, closeR_o h1 h2 h3, Option.map_map]
      congr 1
      funext o
      show cnt r o = cnt (c :: r) (o + 1)
      rw [cnt_cons, hr, if_pos rfl]; rfl
    | false =>
      rw [List.filter_cons_of_pos (by unfold nr; rw [hr]; rfl)]
      by_cases h11 : c = 11
      · subst h11; rw [closeR_b, closeR_b]; rfl
      cases hc : isInit c with
      | true => rw [closeR_init hc, closeR_init hc]; exact step (d + 1) (by omega) hr
      | false =>
        by_cases h23 : c = 23
        · subst h23
          by_cases h1 : d ≤ 1
          · obtain rfl : d = 1 := by omega
            rw [closeR_p1, closeR_p1]; rfl
          · rw [closeR_p (by omega), closeR_p (by omega)]; exact step (d - 1) (by omega) hr
        · rw [closeR_o h11 h23 hc, closeR_o h11 h23 hc]; exact step d hd hr

theorem filter_drop (l : List Int) (i : Nat) : (l.filter nr).drop (cnt l i) = (l.drop i).filter nr := by
  have h : l.filter nr = (l.take i).filter nr ++ (l.drop i).filter nr := by rw [← List.filter_append, List.take_append_drop]
  have hc : cnt l i = ((l.take i).filter nr).length := rfl
  rw [h, hc, List.drop_left]
theorem cnt_add (l : List Int) (i j : Nat) : cnt l (i + j) = cnt l i + cnt (l.drop i) j := by
  unfold cnt
  rw [List.take_add, List.filter_append, List.length_append]
theorem filter_len (l : List Int) : (l.filter nr).length = (plc l).length := by unfold plc; rw [plcF_len]; rfl
theorem filter_at {l : List Int} {k : Nat} (h : k < (plc l).length) : (l.filter nr).getD k 0 = l.getD (plP l k) 0 := by
  obtain ⟨h1, h2, h3⟩ := P_at h
  have := filter_drop l (plP l k)
  rw [h3, drop_e h1, List.filter_cons_of_pos (by unfold nr; rw [h2]; rfl)] at this
  have h4 := congrArg (·[0]?) this
  simp only [List.getElem?_drop] at h4
  rw [List.getD_eq_getElem?_getD]
  simp at h4
  rw [h4]; simp
theorem cl_keep {l : List Int} {k : Nat} (h : k < (plc l).length) : (cl l (plP l k)).map (cnt l) = cl (l.filter nr) k := by
  obtain ⟨h1, h2, h3⟩ := P_at h
  unfold cl
  rw [filter_at h]
  cases hi : isInit (l.getD (plP l k) 0) with
  | false => rfl
  | true =>
    have hc : cnt l (plP l k + 1) = k + 1 := by rw [cnt_succ l h1, h3, h2, if_neg (by decide)]
    have := filter_drop l (plP l k + 1)
    rw [hc] at this
    rw [if_pos rfl, if_pos rfl, this, close_keep _ 1 (Nat.le_refl _), Option.map_map, Option.map_map]
    congr 1
    funext o
    show cnt l (plP l k + 1 + o) = k + 1 + cnt (l.drop (plP l k + 1)) o
    rw [cnt_add, hc]

section
variable {α : Type}
def FF (l : List Int) (x : List α) : List (Int × α) := (l.zip x).filter fun y => nr y.1
theorem FF_fst {l : List Int} {x : List α} (h : l.length = x.length) : (FF l x).map Prod.fst = l.filter nr := by
  have : ((l.zip x).map Prod.fst).filter nr = (FF l x).map Prod.fst := List.filter_map ..
  rw [← this, List.map_fst_zip (Nat.le_of_eq h)]
theorem FF_len {l : List Int} {x : List α} (h : l.length = x.length) : (FF l x).length = (plc l).length := by
  rw [← filter_len, ← FF_fst h, List.length_map]
theorem FF_at {l : List Int} {x : List α} (h : l.length = x.length) {k : Nat} (hk : k < (plc l).length) : (FF l x)[k]? = (x[plP l k]?).map fun y => (l.getD (plP l k) 0, y) := by
  obtain ⟨h1, h2, h3⟩ := P_at hk
  have hs : FF l x = ((l.zip x).take (plP l k)).filter (fun y => nr y.1) ++ ((l.zip x).drop (plP l k)).filter (fun y => nr y.1) := by
    unfold FF
    rw [← List.filter_append, List.take_append_drop]
  have hl : (((l.zip x).take (plP l k)).filter (fun y => nr y.1)).length = k := by
    have e : (((l.zip x).take (plP l k)).map Prod.fst).filter nr = (((l.zip x).take (plP l k)).filter (fun y => nr y.1)).map Prod.fst := List.filter_map ..
    have e' := congrArg List.length e
    rw [List.length_map, List.map_take, List.map_fst_zip (Nat.le_of_eq h)] at e'
    rw [← e']
    exact h3
  have hzl : plP l k < (l.zip x).length := by rw [List.length_zip]; omega
  rw [hs, List.getElem?_append_right (by omega), hl, Nat.sub_self, List.drop_eq_getElem_cons hzl]
  have hg : (l.zip x)[plP l k] = (l.getD (plP l k) 0, x[plP l k]'(by omega)) := by
    rw [List.getElem_zip, List.getD_eq_getElem?_getD, List.getElem?_eq_getElem h1]; rfl
  rw [hg, List.filter_cons_of_pos (by show nr (l.getD (plP l k) 0) = true; unfold nr; rw [h2]; rfl), List.getElem?_eq_getElem (l := x) (i := plP l k) (by omega)]
  rfl
theorem FF_app {a c : List Int} {x y : List α} (h : a.length = x.length) : FF (a ++ c) (x ++ y) = FF a x ++ FF c y := by
  unfold FF
  rw [List.zip_append h, List.filter_append]
theorem FF_rem {a : List Int} {x : List α} (h : ∀ c ∈ a, isRem c = true) : FF a x = [] := by
  unfold FF
  rw [List.filter_eq_nil_iff]
  rintro ⟨c, y⟩ hy
  have := h c (List.of_mem_zip hy).1
  unfold nr
  simp [this]
end

section
variable {l l' n n' o o' : List Int} {b : Int} (h1 : n.length = l.length) (h2 : o.length = l.length) (h1' : n'.length = l'.length) (h2' : o'.length = l'.length) (hF : FF l (n.zip o) = FF l' (n'.zip o'))
include h1 h2 h1' h2' hF

theorem same_filter : l.filter nr = l'.filter nr := by
  rw [← FF_fst (x := n.zip o) (by rw [List.length_zip]; omega), ← FF_fst (x := n'.zip o') (by rw [List.length_zip]; omega), hF]
theorem same_len : (plc l).length = (plc l').length := by
  rw [← filter_len, ← filter_len, same_filter h1 h2 h1' h2' hF]
theorem same_at {k : Nat} (hk : k < (plc l).length) : l.getD (plP l k) 0 = l'.getD (plP l' k) 0 ∧ n.getD (plP l k) 0 = n'.getD (plP l' k) 0 ∧ o.getD (plP l k) 0 = o'.getD (plP l' k) 0 := by
  have hk' : k < (plc l').length := by rw [← same_len h1 h2 h1' h2' hF]; exact hk
  have a := FF_at (l := l) (x := n.zip o) (by rw [List.length_zip]; omega) hk
  have c := FF_at (l := l') (x := n'.zip o') (by rw [List.length_zip]; omega) hk'
  rw [hF, c] at a
  have p := (P_at hk).1
  have p' := (P_at hk').1
  have g : ∀ (x y : List Int) (i : Nat) (hx : i < x.length) (hy : i < y.length), (x.zip y)[i]? = some (x.getD i 0, y.getD i 0) := by
    intro x y i hx hy
    rw [List.getElem?_eq_getElem (by rw [List.length_zip]; omega), List.getElem_zip, List.getD_eq_getElem?_getD, List.getD_eq_getElem?_getD, List.getElem?_eq_getElem hx, List.getElem?_eq_getElem hy]
    rfl
  rw [g _ _ _ (by omega) (by omega), g _ _ _ (by omega) (by omega)] at a
  have a : some (l'.getD (plP l' k) 0, n'.getD (plP l' k) 0, o'.getD (plP l' k) 0) = some (l.getD (plP l k) 0, n.getD (plP l k) 0, o.getD (plP l k) 0) := a
  injection a with a
  injection a with a1 a2
  injection a2 with a2 a3
  exact ⟨a1.symm, a2.symm, a3.symm⟩
theorem same_lv (k : Nat) : lvN l n b k = lvN l' n' b k := by
  unfold lvN
  rw [← same_len h1 h2 h1' h2' hF]
  by_cases hk : k < (plc l).length
  · rw [if_pos hk, if_pos hk, (same_at h1 h2 h1' h2' hF hk).2.1]
  · rw [if_neg hk, if_neg hk]
theorem same_cl {k : Nat} (hk : k < (plc l).length) : (cl l (plP l k)).map (cnt l) = (cl l' (plP l' k)).map (cnt l') := by
  rw [cl_keep hk, cl_keep (by rw [← same_len h1 h2 h1' h2' hF]; exact hk), same_filter h1 h2 h1' h2' hF]
theorem same_sc : scI l n b = scI l' n' b := by
  funext k
  have hlv := fun k => same_lv (b := b) h1 h2 h1' h2' hF k
  have hlen := same_len h1 h2 h1' h2' hF
  have hon : onB l n b k = onB l' n' b k := by unfold onB; rw [hlen, hlv, hlv]
  have hbg : ∀ k, begB l n b k = begB l' n' b k := by intro k; unfold begB; rw [hlv, hlv]
  unfold scI
  rw [hon, ← hlen]
  by_cases hk : k < (plc l).length
  · rw [if_pos hk, if_pos hk]
    have hc := same_cl h1 h2 h1' h2' hF hk
    congr 1
    cases a : cl l (plP l k) with
    | none =>
      rw [a] at hc
      cases c : cl l' (plP l' k) with
      | none => rfl
      | some v => rw [c] at hc; cases hc
    | some u =>
      rw [a] at hc
      cases c : cl l' (plP l' k) with
      | none => rw [c] at hc; cases hc
      | some v =>
        rw [c] at hc
        have hc : some (cnt l u) = some (cnt l' v) := hc
        injection hc with hc
        show (if begB l n b (cnt l u) = true then some (cnt l u) else none) = (if begB l' n' b (cnt l' v) = true then some (cnt l' v) else none)
        rw [hc, hbg]
  · rw [if_neg hk, if_neg hk]
theorem same_eos {k : Nat} (hk : k < (plc l).length) : eosI l n b k = eosI l' n' b k := by
  have hc := same_cl h1 h2 h1' h2' hF hk
  unfold eosI
  rw [same_lv h1 h2 h1' h2' hF, same_lv h1 h2 h1' h2' hF, (same_at h1 h2 h1' h2' hF hk).1]
  congr 1
  have : (cl l (plP l k) = none) ↔ (cl l' (plP l' k) = none) := by
    rw [← Option.map_eq_none_iff (f := cnt l), hc, Option.map_eq_none_iff]
  simp only [this]
theorem same_mk {h : Nat} (hh : h < (plc l).length) : (mkS l n b (plc l).length h).2 = (mkS l' n' b (plc l').length h).2 := by
  have hlen := same_len h1 h2 h1' h2' hF
  have hsc := same_sc (b := b) h1 h2 h1' h2' hF
  unfold mkS
  rw [← hsc, ← hlen]
  have hpv : prevL l n b h = prevL l' n' b h := by unfold prevL; rw [same_lv h1 h2 h1' h2' hF]
  have hlast := walk_in (sc := scI l n b) (B := (plc l).length) sc_s h hh _ (lst_mem sc_s h hh)
  show (lvN l n b h, sideS (lvN l n b h) (prevL l n b h), eosI l n b _) = (lvN l' n' b h, sideS (lvN l' n' b h) (prevL l' n' b h), eosI l' n' b _)
  rw [hpv, same_lv h1 h2 h1' h2' hF, same_eos h1 h2 h1' h2' hF hlast.2]
end
end Go.Proofs.Ytjndolnjhbgflaa
