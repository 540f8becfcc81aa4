/-
  The program's levels are the stack's.
-/
import Derived.Test.YtapfdafmhiilkaaQ2
namespace Go.Proofs.Ytapfdafmhiilkaa
open Go Go.RowKit
set_option linter.unusedVariables false
set_option linter.unusedSectionVars false
set_option linter.unusedSimpArgs false

/-- the stack, as the program has it -/
def stT (s : List En) : List (Int × Int × Bool) := s.map fun e => (e.lev, e.ovr, e.iso)

theorem hdx_stT (e : En) (r : List En) : hdx (stT (e :: r)) = some ((e.lev, e.ovr, e.iso), stT r) := rfl

def isoC : List En → Nat
  | [] => 0
  | e :: r => (if e.iso = true then 1 else 0) + isoC r
def botOk : List En → Prop
  | [] => False
  | [e] => e.iso = false
  | _ :: f :: r => botOk (f :: r)

theorem botOk_ne {s : List En} (h : botOk s) : ∃ e r, s = e :: r := by
  cases s with
  | nil => exact h.elim
  | cons e r => exact ⟨e, r, rfl⟩
theorem botOk_cons {e : En} {s : List En} (h : botOk s) : botOk (e :: s) := by
  cases s with
  | nil => exact h.elim
  | cons f r => exact h
theorem botOk_tail {e : En} {s : List En} (h : botOk (e :: s)) (hs : s ≠ []) : botOk s := by
  cases s with
  | nil => exact absurd rfl hs
  | cons f r => exact h

structure InvM (base : Int) (i : Nat) (s : Ms) : Prop where
  good : GoodM base s
  bot : botOk s.stk
  cnt : s.vi = isoC s.stk
  len : s.stk.length ≤ i + 1
  oi : s.oi ≤ i
  oe : s.oe ≤ i
  vi : s.vi ≤ i

theorem inv0 {base : Int} (h : 0 ≤ base ∧ base ≤ 1) (i : Nat) : InvM base i (ms0 base) := ⟨good0 h, rfl, rfl, by simp [ms0], Nat.zero_le _, Nat.zero_le _, Nat.zero_le _⟩

theorem pop_wf (N : Nat) : ∀ (s : List En) (k : Nat), botOk s → 0 < isoC s → s.length < k → botOk (popIso s) ∧ isoC (popIso s) + 1 = isoC s ∧ (popIso s).length < s.length ∧ ∃ x : En, pEndI_L1 N k (stT s) = some (stT (x :: popIso s))
  | [], _, h, _, _ => h.elim
  | _ :: _, 0, _, _, h => absurd h (Nat.not_lt_zero _)
  | e :: r, k + 1, h, hn, hk => by
    unfold popIso
    unfold pEndI_L1
    rw [hdx_stT, Option.bind_some]
    cases he : e.iso with
    | true =>
      rw [if_pos rfl]
      have hr : r ≠ [] := by rintro rfl; rw [show e.iso = false from h] at he; cases he
      refine ⟨botOk_tail h hr, by rw [isoC, he, if_pos rfl, Nat.add_comm], by simp, e, rfl⟩
    | false =>
      rw [if_neg (by decide)]
      have hi : isoC (e :: r) = isoC r := by rw [isoC, he]; simp
      rw [hi] at hn ⊢
      have hr : r ≠ [] := by rintro rfl; simp [isoC] at hn
      obtain ⟨h1, h2, h3, x, h4⟩ := pop_wf N r k (botOk_tail h hr) hn (by simp at hk; omega)
      exact ⟨h1, h2, by simp; omega, x, h4⟩

theorem step_inv {base : Int} (hb : 0 ≤ base ∧ base ≤ 1) {i : Nat} {s : Ms} (h : InvM base i s) (c : Int) (f : Bool) : InvM base (i + 1) (stepM base s c f).1 := by
  have hg := step_good hb h.good c f
  obtain ⟨h1, h2, h3, h4, h5, h6, h7⟩ := h
  have keep : InvM base (i + 1) s := ⟨h1, h2, h3, by omega, by omega, by omega, by omega⟩
  unfold stepM at hg ⊢
  split
  · exact inv0 hb _
  rename_i n11
  rw [if_neg n11] at hg
  split
  · rename_i e23
    rw [if_pos e23] at hg
    simp only at hg ⊢
    split
    · rename_i ho
      exact ⟨by rw [if_pos ho] at hg; exact hg, h2, h3, by show s.stk.length ≤ _; omega, by show s.oi - 1 ≤ _; omega, by show s.oe ≤ _; omega, by show s.vi ≤ _; omega⟩
    rename_i ho
    rw [if_neg ho] at hg
    split
    · rename_i hv
      rw [if_pos hv] at hg
      obtain ⟨p1, p2, p3, _⟩ := pop_wf 0 s.stk (s.stk.length + 1) h2 (by omega) (by omega)
      exact ⟨hg, p1, by show s.vi - 1 = isoC (popIso s.stk); omega, by show (popIso s.stk).length ≤ _; omega, Nat.zero_le _, Nat.zero_le _, by show s.vi - 1 ≤ _; omega⟩
    · exact keep
  rename_i n23
  rw [if_neg n23] at hg
  split
  · rename_i e19
    rw [if_pos e19] at hg
    simp only at hg ⊢
    split
    · exact keep
    rename_i ho
    rw [if_neg ho] at hg
    split
    · rename_i he
      rw [if_pos he] at hg
      exact ⟨hg, h2, h3, by show s.stk.length ≤ _; omega, by show s.oi ≤ _; omega, by show s.oe - 1 ≤ _; omega, by show s.vi ≤ _; omega⟩
    rename_i he
    rw [if_neg he] at hg
    split
    · rename_i e g r hs
      rw [hs] at hg
      simp only at hg
      split
      · exact keep
      · rename_i hiso
        rw [if_neg hiso] at hg
        have : e.iso = false := by simpa using hiso
        refine ⟨hg, ?_, ?_, ?_, by show s.oi ≤ _; omega, by show s.oe ≤ _; omega, by show s.vi ≤ _; omega⟩
        · rw [hs] at h2; exact h2
        · show s.vi = isoC (g :: r)
          rw [h3, hs, isoC, this]; simp
        · show (g :: r).length ≤ _
          rw [hs] at h4; simp at h4 ⊢; omega
    · exact keep
  rename_i n19
  rw [if_neg n19] at hg
  split
  · rename_i hi
    rw [if_pos hi] at hg
    simp only at hg ⊢
    split
    · rename_i hc
      rw [if_pos hc] at hg
      exact ⟨hg, botOk_cons h2, by show s.vi + 1 = isoC (_ :: _); rw [isoC, if_pos rfl, h3, Nat.add_comm], by show (_ :: s.stk).length ≤ _; simp; omega, by show s.oi ≤ _; omega, by show s.oe ≤ _; omega, by show s.vi + 1 ≤ _; omega⟩
    · rename_i hc
      rw [if_neg hc] at hg
      exact ⟨hg, h2, h3, by show s.stk.length ≤ _; omega, by show s.oi + 1 ≤ _; omega, by show s.oe ≤ _; omega, by show s.vi ≤ _; omega⟩
  rename_i ni
  rw [if_neg ni] at hg
  split
  · rename_i hi
    rw [if_pos hi] at hg
    simp only at hg ⊢
    split
    · rename_i hc
      rw [if_pos hc] at hg
      exact ⟨hg, botOk_cons h2, by show s.vi = isoC (_ :: _); simp [isoC, h3], by show (_ :: s.stk).length ≤ _; simp; omega, by show s.oi ≤ _; omega, by show s.oe ≤ _; omega, by show s.vi ≤ _; omega⟩
    rename_i hc
    rw [if_neg hc] at hg
    split
    · rename_i ho
      rw [if_pos ho] at hg
      exact ⟨hg, h2, h3, by show s.stk.length ≤ _; omega, by show s.oi ≤ _; omega, by show s.oe + 1 ≤ _; omega, by show s.vi ≤ _; omega⟩
    · exact keep
  split
  · exact keep
  · exact keep

/-! ### what each call does -/
section
variable {N : Nat} {l pr lv cl : List Int} {base : Int} {i : Nat}

theorem pStand_eq (s : List En) (hs : s ≠ []) (x y z : Int) (c : Int) (h1 : i < lv.length) (h2 : i < cl.length) (hc : cl.getD i 0 = c) :
    pStand N (stT s) x y z l pr base lv cl (i : Int) = some (lv.set i (topL s base), cl.set i (clsO s c)) := by
  cases s with
  | nil => exact absurd rfl hs
  | cons e r =>
    unfold pStand
    simp only [hdx_stT, Option.bind_some, ixe h1, setxe _ h1]
    rw [show topL (e :: r) base = e.lev from rfl, show clsO (e :: r) c = if e.ovr = 0 then c else e.ovr from rfl]
    by_cases ho : e.ovr = 0
    · rw [if_neg (by simpa using ho), if_pos ho, ← hc]
      congr 2
      apply List.ext_getElem?
      intro m
      rw [List.getElem?_set]
      split
      · rename_i e1; subst e1
        rw [List.getD_eq_getElem?_getD, List.getElem?_eq_getElem h2]; rfl
      · rfl
    · rw [if_pos ho, if_neg ho, ixe h2, Option.bind_some, setxe _ h2, Option.bind_some]

/-- the level of what stands ahead -/
def aheadL (base : Int) (lv : List Int) (i : Nat) : Int := if i = 0 then base else lv.getD (i - 1) 0

theorem pRemove_eq (s : List (Int × Int × Bool)) (x y z : Int) (h1 : i < lv.length) (h2 : i < cl.length) (hi : i ≤ 400000000) :
    pRemove N s x y z l pr base lv cl (i : Int) = some (lv.set i (aheadL base lv i), cl.set i 10) := by
  unfold pRemove aheadL
  rw [ixe h2, Option.bind_some, setxe _ h2, Option.bind_some, ixe h1, Option.bind_some, setxe _ h1, Option.bind_some]
  by_cases h0 : i = 0
  · subst h0; rfl
  · rw [if_pos (by omega), if_neg h0, wme i (by omega) (by omega), ixe (by rw [List.length_set]; omega), Option.bind_some, ixe (by rw [List.length_set]; omega), Option.bind_some, setxe _ (by rw [List.length_set]; omega), Option.bind_some, List.set_set]
    rw [List.getD_eq_getElem?_getD, List.getElem?_set_ne (by omega), ← List.getD_eq_getElem?_getD]

theorem next_r : ∀ n : Fin 126, ior .u8 (IntKind.u8.wrap (((n.val : Nat) : Int) + 1)) 1 = nextL ((n.val : Nat) : Int) true := by decide
theorem next_l : ∀ n : Fin 126, iandn .u8 (IntKind.u8.wrap (((n.val : Nat) : Int) + 2)) 1 = nextL ((n.val : Nat) : Int) false := by decide

theorem pNext_eq (s : List En) (hs : s ≠ []) (hl : 0 ≤ topL s base ∧ topL s base ≤ 125) (side : Int) : pNext N (stT s) side = some (nextL (topL s base) (decide (side = 2))) := by
  cases s with
  | nil => exact absurd rfl hs
  | cons e r =>
    unfold pNext
    have ht : topL (e :: r) base = e.lev := rfl
    rw [ht] at hl ⊢
    obtain ⟨n, hn⟩ : ∃ n : Fin 126, e.lev = ((n.val : Nat) : Int) := ⟨⟨e.lev.toNat, by omega⟩, by simp; omega⟩
    simp only [hdx_stT, Option.bind_some]
    by_cases h : side = 2
    · rw [if_pos h, decide_eq_true h, hn, next_r]
    · rw [if_neg h, decide_eq_false h, hn, next_l]

theorem pPush_eq (s : List En) (hs : s ≠ []) (hl : 0 ≤ topL s base ∧ topL s base ≤ 125) (vi : Int) (oi oe : Nat) (side ovr : Int) (iso : Bool) (b' : Int) :
    pPush N (stT s) vi (oi : Int) (oe : Int) l pr b' lv cl side ovr iso = if oi = 0 ∧ oe = 0 ∧ nextL (topL s base) (decide (side = 2)) ≤ 125 then some (true, stT (⟨nextL (topL s base) (decide (side = 2)), ovr, iso⟩ :: s)) else some (false, stT s) := by
  unfold pPush
  rw [pNext_eq (base := base) s hs hl, Option.bind_some]
  generalize nextL (topL s base) (decide (side = 2)) = n
  by_cases hc : oi = 0 ∧ oe = 0 ∧ n ≤ 125
  · rw [if_pos hc, if_neg (show ¬ n > 125 by omega), if_neg (show ¬ (oi : Int) > 0 by omega)]
    simp only [Option.bind_some]
    rw [if_neg (show ¬ (oe : Int) > 0 by omega)]
    rfl
  · rw [if_neg hc]
    by_cases h1 : n > 125
    · rw [if_pos h1]; rfl
    rw [if_neg h1]
    by_cases h2 : (oi : Int) > 0
    · rw [if_pos h2]; rfl
    rw [if_neg h2]
    simp only [Option.bind_some]
    rw [if_pos (show (oe : Int) > 0 by omega)]
    rfl

theorem pBegE_eq (s : List En) (hs : s ≠ []) (hl : 0 ≤ topL s base ∧ topL s base ≤ 125) (vi : Int) (oi oe : Nat) (hoe : oe ≤ 400000000) (side ovr : Int) (b' : Int) :
    pBegE N (stT s) vi (oi : Int) (oe : Int) l pr b' lv cl side ovr = if oi = 0 ∧ oe = 0 ∧ nextL (topL s base) (decide (side = 2)) ≤ 125 then some (stT (⟨nextL (topL s base) (decide (side = 2)), ovr, false⟩ :: s), (oe : Int)) else some (stT s, ((if oi = 0 then oe + 1 else oe : Nat) : Int)) := by
  unfold pBegE
  rw [pPush_eq (base := base) s hs hl]
  split
  · rfl
  · simp only [Option.bind_some]
    by_cases h : oi = 0
    · rw [if_pos (by omega), if_pos h]
      simp only [Option.bind_some]
      rw [wne oe (by omega)]
    · rw [if_neg (by omega), if_neg h]
      rfl

theorem pBegI_eq (s : List En) (hs : s ≠ []) (hl : 0 ≤ topL s base ∧ topL s base ≤ 125) (vi oi oe : Nat) (hv : vi ≤ 400000000) (ho : oi ≤ 400000000) (side : Int) (b' : Int) :
    pBegI N (stT s) (vi : Int) (oi : Int) (oe : Int) l pr b' lv cl side = if oi = 0 ∧ oe = 0 ∧ nextL (topL s base) (decide (side = 2)) ≤ 125 then some (stT (⟨nextL (topL s base) (decide (side = 2)), 0, true⟩ :: s), ((vi + 1 : Nat) : Int), (oi : Int)) else some (stT s, (vi : Int), ((oi + 1 : Nat) : Int)) := by
  unfold pBegI
  rw [pPush_eq (base := base) s hs hl]
  split
  · simp only [Option.bind_some]
    rw [wne vi (by omega)]
  · simp only [Option.bind_some]
    rw [wne oi (by omega)]

theorem pEndE_eq (s : Ms) (hs : botOk s.stk) (hoe : s.oe ≤ 400000000) (vi : Int) (b' : Int) :
    pEndE N (stT s.stk) vi (s.oi : Int) (s.oe : Int) l pr b' lv cl = some (stT (stepM base s 19 false).1.stk, ((stepM base s 19 false).1.oe : Int)) := by
  unfold pEndE
  rw [step_F]
  by_cases h1 : 0 < s.oi
  · rw [if_pos (by omega), if_pos h1]
  rw [if_neg (by omega), if_neg h1]
  by_cases h2 : 0 < s.oe
  · rw [if_pos (by omega), if_pos h2, wme s.oe (by omega) h2]
  rw [if_neg (by omega), if_neg h2]
  obtain ⟨stk, oi, oe, vi'⟩ := s
  simp only at hs ⊢
  obtain ⟨e, r, rfl⟩ := botOk_ne hs
  simp only [hdx_stT, Option.bind_some]
  cases he : e.iso with
  | true =>
    simp only [Option.bind_some]
    cases r with
    | nil => rfl
    | cons f r => simp only [he, if_true]
  | false =>
    simp only [Option.bind_some]
    cases r with
    | nil => rfl
    | cons f r =>
      simp only [he, Bool.false_eq_true, if_false]
      rfl

theorem pEndI_eq (s : Ms) (hs : botOk s.stk) (hv : s.vi = isoC s.stk) (hlen : s.stk.length < N) (ho : s.oi ≤ 400000000) (hv2 : s.vi ≤ 400000000) (b' : Int) :
    pEndI N (stT s.stk) (s.vi : Int) (s.oi : Int) (s.oe : Int) l pr b' lv cl = some (stT (stepM base s 23 false).1.stk, ((stepM base s 23 false).1.vi : Int), ((stepM base s 23 false).1.oi : Int), ((stepM base s 23 false).1.oe : Int)) := by
  unfold pEndI
  by_cases h1 : 0 < s.oi
  · rw [step_P0 base s false h1, if_pos (by omega), wme s.oi (by omega) h1]
  by_cases h2 : 0 < s.vi
  · rw [step_P1 base s false (by omega) h2, if_neg (by omega), if_pos (by omega)]
    obtain ⟨_, _, _, x, h4⟩ := pop_wf N s.stk N hs (by omega) hlen
    rw [h4, Option.bind_some, hdx_stT, Option.bind_some, wme s.vi (by omega) h2]
    have : s.oi = 0 := by omega
    rw [this]
    rfl
  · rw [step_P2 base s false (by omega) (by omega), if_neg (by omega), if_neg (by omega)]
end
end Go.Proofs.Ytapfdafmhiilkaa
