/-
  The document's Levels, by lists.
-/
import Derived.Test.YtjndolnjhbgflaaE4
namespace Go.Proofs.Ytjndolnjhbgflaa
open Go Go.RowKit
set_option linter.unusedVariables false
set_option linter.unusedSectionVars false
set_option linter.unusedSimpArgs false

theorem take_set_lt (l : List Int) (j : Nat) (v : Int) : (l.set j v).take j = l.take j := by
  apply List.ext_getElem?
  intro m
  rw [List.getElem?_take, List.getElem?_take]
  by_cases h : m < j
  · rw [if_pos h, if_pos h, List.getElem?_set]
    rw [if_neg (by omega)]
  · rw [if_neg h, if_neg h]

theorem take_succ_set (l : List Int) (j : Nat) (v : Int) (h : j < l.length) : (l.set j v).take (j + 1) = l.take j ++ [v] := by
  rw [List.take_succ_eq_append_getElem (by simpa using h), take_set_lt]
  simp

theorem upd_take (o : Option (Int × Int)) (i : Nat) (a : List Int × List Int) : (upd o i a).1.take i = a.1.take i ∧ (upd o i a).2.take i = a.2.take i := by
  unfold upd
  split
  · exact ⟨take_set_lt _ _ _, take_set_lt _ _ _⟩
  · exact ⟨rfl, rfl⟩

theorem take_less {l m : List Int} {j : Nat} (h : l.take (j + 1) = m.take (j + 1)) : l.take j = m.take j := by
  have := congrArg (List.take j) h
  rw [List.take_take, List.take_take, Nat.min_eq_left (by omega)] at this
  exact this

theorem arrM_take (base : Int) (x : List Int) : ∀ (r : List Int) (s : Ms) (j : Nat) (a : List Int × List Int), (arrM base s j r x a).1.take j = a.1.take j ∧ (arrM base s j r x a).2.take j = a.2.take j
  | [], _, _, _ => ⟨rfl, rfl⟩
  | c :: r, s, j, a => by
    rw [arrM_cons]
    have ih := arrM_take base x r (stepM base s c (rightw true 0 (r ++ x))).1 (j + 1) (upd (stepM base s c (rightw true 0 (r ++ x))).2 j a)
    have hu := upd_take (stepM base s c (rightw true 0 (r ++ x))).2 j a
    exact ⟨(take_less ih.1).trans hu.1, (take_less ih.2).trans hu.2⟩

theorem arrM_set (base : Int) (x : List Int) (i : Nat) (v k : Int) : ∀ (r : List Int) (s : Ms) (j : Nat) (a : List Int × List Int), i < j → arrM base s j r x (a.1.set i v, a.2.set i k) = ((arrM base s j r x a).1.set i v, (arrM base s j r x a).2.set i k)
  | [], _, _, _, _ => rfl
  | c :: r, s, j, a, h => by
    rw [arrM_cons, arrM_cons, ← arrM_set base x i v k r _ (j + 1) _ (by omega)]
    congr 1
    unfold upd
    split
    · simp only
      rw [List.set_comm _ _ (show i ≠ j by omega), List.set_comm _ _ (show i ≠ j by omega)]
    · rfl

theorem step_rem (base : Int) (s : Ms) (c : Int) (f : Bool) (hr : isRem c = true) : (stepM base s c f).2 = none := by
  rw [isRem_iff] at hr
  unfold stepM
  rw [if_neg (by omega), if_neg (by omega)]
  split
  · rfl
  rw [if_neg (by rw [isInit_iff]; omega)]
  split
  · rfl
  · rename_i h1 h2
    rw [isEmb_iff] at h2
    rw [if_pos (by omega)]

theorem step_nrem (base : Int) (s : Ms) (c : Int) (f : Bool) (hr : isRem c = false) : ∃ v k, (stepM base s c f).2 = some (v, k) := by
  have hr' : ¬ (c = 15 ∨ c = 16 ∨ c = 17 ∨ c = 18 ∨ c = 19 ∨ c = 10) := fun e => by rw [(isRem_iff c).2 e] at hr; cases hr
  unfold stepM
  split
  · exact ⟨_, _, rfl⟩
  split
  · exact ⟨_, _, rfl⟩
  rw [if_neg (by omega)]
  split
  · exact ⟨_, _, rfl⟩
  rw [if_neg (by rw [isEmb_iff]; omega), if_neg (by omega)]
  exact ⟨_, _, rfl⟩

theorem fill2 (N : Nat) (l : List Int) (base : Int) (hl : l.length ≤ 900000000) : ∀ (r : List Int) (i k : Nat) (s : Ms) (p : Int) (a : List Int × List Int), l.drop i = r → i + r.length = l.length → r.length < k → a.1.length = l.length → a.2.length = l.length →
    rLevels_L2 N l k (arrM base s i r [] a).1 (arrM base s i r [] a).2 p (i : Int) = some (a.1.take i ++ (runM base s p r).map Prod.fst, a.2.take i ++ (runM base s p r).map Prod.snd)
  | [], i, 0, _, _, _, _, _, h, _, _ => absurd h (Nat.not_lt_zero _)
  | _ :: _, i, 0, _, _, _, _, _, h, _, _ => absurd h (Nat.not_lt_zero _)
  | [], i, k + 1, s, p, a, hd, hi, hk, h1, h2 => by
    unfold rLevels_L2 arrM
    simp at hi
    rw [if_neg (by omega), List.take_of_length_le (by omega), List.take_of_length_le (by omega)]
    simp [runM]
  | c :: r, i, k + 1, s, p, a, hd, hi, hk, h1, h2 => by
    rw [List.length_cons] at hi hk
    obtain ⟨hil, hx, hix⟩ := ix_drop hd
    have hdr : l.drop (i + 1) = r := by rw [drop_e hil] at hd; injection hd
    have hln := arrM_len base [] (c :: r) s i a
    conv => lhs; unfold rLevels_L2
    rw [if_pos (by omega)]
    simp only [hix, Option.bind_some, rRem_eq]
    cases hr : isRem c with
    | true =>
      have hs := step_rem base s c (rightw true 0 r) hr
      have hA : arrM base s i (c :: r) [] a = arrM base (stepM base s c (rightw true 0 r)).1 (i + 1) r [] a := by
        rw [arrM_cons, List.append_nil, hs]; rfl
      rw [hA] at hln ⊢
      simp only [ixe (show i < _ by rw [hln.1]; omega), ixe (show i < _ by rw [hln.2]; omega), setxe _ (show i < _ by rw [hln.1]; omega), setxe _ (show i < _ by rw [hln.2]; omega), Option.bind_some]
      rw [ixe (by rw [List.length_set, hln.1]; omega), Option.bind_some, wne i (by omega)]
      have hg : ((arrM base (stepM base s c (rightw true 0 r)).1 (i + 1) r [] a).1.set i p).getD i 0 = p := by
        rw [List.getD_eq_getElem?_getD, List.getElem?_set_self (by rw [hln.1]; omega)]; rfl
      rw [hg]
      have hset := arrM_set base [] i p 10 r (stepM base s c (rightw true 0 r)).1 (i + 1) a (by omega)
      have ih := fill2 N l base hl r (i + 1) k (stepM base s c (rightw true 0 r)).1 p (a.1.set i p, a.2.set i 10) hdr (by omega) (by omega) (by simp [h1]) (by simp [h2])
      rw [hset] at ih
      rw [ih, runM_cons, hs]
      simp only [take_succ_set _ _ _ (show i < a.1.length by omega), take_succ_set _ _ _ (show i < a.2.length by omega), List.append_assoc]
      rfl
    | false =>
      obtain ⟨v, kk, hs⟩ := step_nrem base s c (rightw true 0 r) hr
      have hA : arrM base s i (c :: r) [] a = arrM base (stepM base s c (rightw true 0 r)).1 (i + 1) r [] (a.1.set i v, a.2.set i kk) := by
        rw [arrM_cons, List.append_nil, hs]; rfl
      rw [hA] at hln ⊢
      simp only [Option.bind_some]
      rw [ixe (by rw [hln.1]; omega), Option.bind_some, wne i (by omega)]
      have hg : (arrM base (stepM base s c (rightw true 0 r)).1 (i + 1) r [] (a.1.set i v, a.2.set i kk)).1.getD i 0 = v := by
        have h3 := (arrM_take base [] r (stepM base s c (rightw true 0 r)).1 (i + 1) (a.1.set i v, a.2.set i kk)).1
        rw [take_succ_set _ _ _ (show i < a.1.length by omega)] at h3
        have h4 : ((arrM base (stepM base s c (rightw true 0 r)).1 (i + 1) r [] (a.1.set i v, a.2.set i kk)).1.take (i + 1))[i]? = some v := by
          rw [h3, List.getElem?_append_right (by simp; omega)]
          simp [Nat.min_eq_left (show i ≤ a.1.length by omega)]
        rw [List.getElem?_take, if_pos (by omega)] at h4
        rw [List.getD_eq_getElem?_getD, h4]; rfl
      rw [hg]
      have ih := fill2 N l base hl r (i + 1) k (stepM base s c (rightw true 0 r)).1 v (a.1.set i v, a.2.set i kk) hdr (by omega) (by omega) (by simp [h1]) (by simp [h2])
      rw [ih, runM_cons, hs]
      simp only [take_succ_set _ _ _ (show i < a.1.length by omega), take_succ_set _ _ _ (show i < a.2.length by omega), List.append_assoc]
      rfl

def okC (c : Int) : Bool := decide (1 ≤ c ∧ c ≤ 23)

/-- the paragraph's level -/
def baseS (l : List Int) (b : Int) : Int := if b = 2 then (if rightw false 0 l = true then 1 else 0) else b

/-- P10.2, by lists: levels, classes, the paragraph's level, the error -/
def levelsS (l : List Int) (b : Int) : List Int × List Int × Int × Int :=
  if 65536 < l.length then ([], [], 0, 3)
  else if l.all okC = false then ([], [], 0, 2)
  else if 2 < b then ([], [], 0, 2)
  else ((runM (baseS l b) (ms0 (baseS l b)) (baseS l b) l).map Prod.fst, (runM (baseS l b) (ms0 (baseS l b)) (baseS l b) l).map Prod.snd, baseS l b, 0)

theorem ok_loop (N : Nat) (l : List Int) (hl : l.length ≤ 900000000) : ∀ (k i : Nat), i ≤ l.length → l.length - i < k → rLevels_L1 N l k (i : Int) = some (if (l.drop i).all okC = true then Ctl.go () else Ctl.ret ([], [], 0, 2))
  | 0, _, _, h => absurd h (Nat.not_lt_zero _)
  | k + 1, i, hi, hk => by
    unfold rLevels_L1
    by_cases hn : i < l.length
    · rw [if_pos (by omega), drop_e hn, List.all_cons, wne i (by omega)]
      simp only [ixe hn, Option.bind_some]
      generalize l.getD i 0 = c
      by_cases h1 : c < 1
      · rw [if_pos h1]
        have : okC c = false := decide_eq_false (by omega)
        rw [this, Bool.false_and, if_neg (by simp)]
      · rw [if_neg h1]
        by_cases h2 : c > 23
        · rw [if_pos h2]
          have : okC c = false := decide_eq_false (by omega)
          rw [this, Bool.false_and, if_neg (by simp)]
        · rw [if_neg h2]
          have : okC c = true := decide_eq_true (by omega)
          rw [this, Bool.true_and]
          exact ok_loop N l hl k (i + 1) (by omega) (by omega)
    · rw [if_neg (by omega), List.drop_eq_nil_of_le (by omega)]
      rfl

theorem mkx_nat (n : Nat) (h : n ≤ 1000000000) : mkx (n : Int) = some (List.replicate n 0) := by unfold mkx; rw [if_pos (by omega)]; simp

theorem within_all (N : Nat) (l : List Int) (n : Int) (hn : 0 ≤ n ∧ n ≤ 1) (hl : l.length ≤ 100000000) (hN : l.length + 2 < N) (a : List Int × List Int) (h1 : a.1.length = l.length) (h2 : a.2.length = l.length) :
    rWithin N l n a.1 a.2 0 n 0 0 false = some (((l.length : Nat) : Int), (arrM n (ms0 n) 0 l [] a).1, (arrM n (ms0 n) 0 l [] a).2) := by
  obtain ⟨M, rfl⟩ : ∃ M, N = M + 1 := ⟨N - 1, by omega⟩
  obtain ⟨seg, suf, d1, d2, d3⟩ := within_res (M + 1) l n hn hl (by omega) l.length 0 (by omega) (Nat.zero_le _) (M + 1) M (by omega) (by omega) ⟨n, 0, false⟩ [] 0 0 0 0 false a h1 h2 ⟨by show 0 ≤ n; omega, by show n ≤ 125; omega⟩ (Nat.le_refl _) (Nat.le_refl _) (.inl ⟨rfl, rfl, rfl, rfl⟩) rfl
  have hs : suf = [] := by
    rcases d3 with h | ⟨r, _, h⟩ | ⟨r, T, _, h, _⟩ | ⟨r, _, h, _⟩
    · exact h
    · exact absurd rfl h
    · omega
    · cases h
  subst hs
  rw [List.append_nil, List.drop_zero] at d1
  subst d1
  rw [Nat.zero_add] at d2
  exact d2

theorem rLevels_eq (N : Nat) (l : List Int) (b : Int) (hb : 0 ≤ b ∧ b ≤ 255) (hl : l.length ≤ 100000000) (hN : l.length + 2 < N) : rLevels N l b = some (levelsS l b) := by
  unfold rLevels levelsS
  by_cases c1 : 65536 < l.length
  · rw [if_pos (by omega), if_pos c1]
  rw [if_neg (by omega), if_neg c1]
  have hL := ok_loop N l (by omega) N 0 (Nat.zero_le _) (by omega)
  rw [List.drop_zero, show ((0 : Nat) : Int) = 0 from rfl] at hL
  rw [hL]
  by_cases c2 : l.all okC = true
  · rw [if_pos c2, if_neg (show ¬ l.all okC = false by rw [c2]; simp)]
    simp only [Option.bind_some]
    by_cases c3 : 2 < b
    · rw [if_pos c3, if_pos c3]
    rw [if_neg c3, if_neg (show ¬ 2 < b from c3)]
    have hbs : (((if b = 2 then ((rBase N l).bind fun x70 => some (x70)) else some (b)) : Option (Int))) = some (baseS l b) := by
      unfold baseS
      rw [rBase_eq N l (by omega) (by omega)]
      split <;> rfl
    rw [hbs]
    simp only [Option.bind_some, mkx_nat l.length (by omega)]
    have hn : 0 ≤ baseS l b ∧ baseS l b ≤ 1 := by
      unfold baseS
      split
      · split <;> omega
      · omega
    generalize baseS l b = n at hn
    have hw := within_all N l n hn hl hN (List.replicate l.length 0, List.replicate l.length 0) (by simp) (by simp)
    rw [hw]
    simp only [Option.bind_some]
    have hf := fill2 N l n (by omega) l 0 N (ms0 n) n (List.replicate l.length 0, List.replicate l.length 0) (List.drop_zero) (by simp) (by omega) (by simp) (by simp)
    rw [show ((0 : Nat) : Int) = 0 from rfl] at hf
    rw [hf]
    rfl
  · rw [if_neg c2, if_pos (show l.all okC = false by rw [Bool.eq_false_iff]; exact c2)]
    rfl
end Go.Proofs.Ytjndolnjhbgflaa
