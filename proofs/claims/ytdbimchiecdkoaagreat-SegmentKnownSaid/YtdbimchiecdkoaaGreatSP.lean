/-
  Joined.
-/
import Derived.Test.YtdbimchiecdkoaaGreatP2
import Derived.Test.YtdbimchiecdkoaaGreatSC
namespace Go.Proofs.YtdbimchiecdkoaaGreat
open Go Go.RowKit Sg
set_option linter.unusedVariables false
set_option linter.unusedSimpArgs false
def posL (q : Int) : List U → Int | [] => -1 | u :: _ => q - u.2.2.1
def posK (q : Int) : List U → Int | [] => -1 | u :: L => if u.1 = 5 then posK (q - u.2.2.1) L else q - u.2.2.1
def posR (q : Int) : List U → Int | [] => q | u :: _ => q + u.2.2.1
abbrev Un := UnitAt breakC wdC
abbrev LR := LayR breakC wdC
abbrev LL := LayL breakC wdC
section
variable {N : Nat} {l cl : List Int} {L R : List U} {u : U} {p q n : Nat}
theorem un_lk (h : Un l cl p n u) (X : List U) : Lk wdC l cl (p : Int) (u :: X) := by
  obtain ⟨h1, h2, h3, h4, h5, h6, h7, h8⟩ := h
  have hp : p < l.length := (List.getElem?_eq_some_iff.1 h3).1
  exact ⟨by omega, by omega, by simpa using h2, by simpa using h3, h6, h7, h8⟩
theorem un_lt (h : Un l cl p n u) : p + n < l.length := by
  obtain ⟨h1, h2, h3, h4, ⟨x, h5, _⟩, h6⟩ := h
  exact (List.getElem?_eq_some_iff.1 h5).1
theorem ll_lk (h : LL l cl q L) : Lk wdC l cl (posL q L) L := by
  cases L with
  | nil => show ¬ _; simp [posL]
  | cons u L =>
    obtain ⟨p, n, rfl, hu, _⟩ := h
    have : posL ((p + n + 1 : Nat) : Int) (u :: L) = (p : Int) := by simp only [posL, hu.1]; omega
    rw [this]
    exact un_lk hu L
theorem ll_tl (h : LL l cl q (u :: L)) : ∃ p : Nat, posL q (u :: L) = (p : Int) ∧ LL l cl p L := by
  obtain ⟨p, n, rfl, hu, hL⟩ := h
  exact ⟨p, by simp only [posL, hu.1]; omega, hL⟩
theorem ll_k : ∀ (L : List U) (q : Nat), LL l cl q L → Lk wdC l cl (posK q L) (spk L) ∧ (spk L = [] ∨ ∃ p : Nat, posK q L = (p : Int) ∧ LL l cl p ((spk L).drop 1))
  | [], q, h => ⟨by show ¬ _; simp [posK], .inl rfl⟩
  | u :: L, q, h => by
    obtain ⟨p, n, rfl, hu, hL⟩ := h
    have e : ((p + n + 1 : Nat) : Int) - u.2.2.1 = (p : Int) := by rw [hu.1]; omega
    unfold posK spk
    by_cases h5 : u.1 = 5
    · rw [if_pos h5, e, if_pos (by simpa using h5)]
      exact ll_k L p hL
    · rw [if_neg h5, e, if_neg (by simpa using h5)]
      exact ⟨un_lk hu L, .inr ⟨p, rfl, hL⟩⟩
theorem ll_j (h : LL l cl q L) : Lk wdC l cl (posL (posK q L) ((spk L).drop 1)) ((spk L).drop 1) := by
  rcases (ll_k L q h).2 with e | ⟨p, e, hp⟩
  · rw [e]; show ¬ _; simp [posL]
  · rw [e]; exact ll_lk hp
theorem ll_o (h : LL l cl q L) : Lk wdC l cl (posL (posL q L) (L.drop 1)) (L.drop 1) := by
  cases L with
  | nil => show ¬ _; simp [posL]
  | cons u L =>
    obtain ⟨p, e, hp⟩ := ll_tl h
    rw [e]; exact ll_lk hp
theorem lr_lk (h : LR l cl q R) : Lk wdC l cl (q : Int) R := by
  cases R with
  | nil => have h : q = l.length := h; show ¬ _; omega
  | cons u R =>
    obtain ⟨n, hu, _⟩ := h
    exact un_lk hu R
theorem lr_tl (h : LR l cl q R) : ∃ p : Nat, posR q R = (p : Int) ∧ LR l cl p (R.drop 1) := by
  cases R with
  | nil => exact ⟨q, rfl, h⟩
  | cons u R =>
    obtain ⟨n, hu, hR⟩ := h
    exact ⟨q + n + 1, by simp only [posR, hu.1]; omega, hR⟩
theorem lr_le (h : LR l cl q R) : q ≤ l.length := by
  cases R with
  | nil => exact Nat.le_of_eq h
  | cons u R => obtain ⟨n, hu, _⟩ := h; have := un_lt hu; omega
theorem ll_zw (h : LL l cl q (u :: L)) (hl : l.length ≤ 1000000000) : ∃ x, ix l (IntKind.i64.wrap ((q : Int) - 1)) = some x ∧ (breakC x == 10) = zw0 (u :: L) := by
  obtain ⟨p, n, rfl, hu, hL⟩ := h
  have hlt := un_lt hu
  obtain ⟨h1, h2, h3, h4, ⟨x, h5, h5'⟩, h6, h7⟩ := hu
  rw [w64s (by omega) (by omega), show ((p + n + 1 : Nat) : Int) - 1 = ((p + n : Nat) : Int) by omega]
  exact ⟨x, ix_of (by omega) (by omega) (by rw [Int.toNat_natCast]; exact h5), h5'⟩
theorem pl_of (hN : 60 ≤ N) (hl : l.length ≤ 1000000000) (hc : cl.length = l.length) (hL : LL l cl q (u :: L)) (hR : LR l cl q R) :
    Pl N l cl (posL (posL q (u :: L)) L) (posL q (u :: L)) q (posR q R) (posR (posR q R) (R.drop 1)) (posL (posK q (u :: L)) ((spk (u :: L)).drop 1)) (posK q (u :: L)) (u :: L) R := by
  obtain ⟨p1, e1, hR1⟩ := lr_tl hR
  obtain ⟨p2, e2, hR2⟩ := lr_tl hR1
  refine ⟨hN, hc, ll_o hL, ll_lk hL, lr_lk hR, ?_, ?_, ll_j hL, (ll_k _ q hL).1, ll_zw hL hl⟩
  · rw [e1]; exact lr_lk hR1
  · rw [e1, e2]
    have := lr_lk hR2
    rwa [List.drop_drop] at this
theorem pNext_L1_eq (hl : cl.length ≤ 1000000000) : ∀ (d f x : Nat), (∀ i, i < d → cl[x + i]? = some 39) → (cl.length ≤ x + d ∨ ∃ c, cl[x + d]? = some c ∧ c ≠ 39) → d < f → x + d ≤ cl.length + 1 → pNext_L1 N cl f (x : Int) = some ((x + d : Nat) : Int)
  | _, 0, _, _, _, h, _ => by omega
  | 0, f + 1, x, _, h2, _, _ => by
    unfold pNext_L1
    rcases h2 with h2 | ⟨c, h2, h3⟩
    · rw [if_neg (by omega)]; rfl
    · have hx : x < cl.length := (List.getElem?_eq_some_iff.1 h2).1
      rw [if_pos (by omega), ix_of (by omega) (by omega) (by simpa using h2), Option.bind_some, if_neg h3]; rfl
  | d + 1, f + 1, x, h1, h2, h3, h4 => by
    unfold pNext_L1
    have h0 := h1 0 (by omega)
    have hx : x < cl.length := (List.getElem?_eq_some_iff.1 h0).1
    rw [if_pos (by omega), ix_of (by omega) (by omega) (by simpa using h0), Option.bind_some, if_pos rfl, w64s (by omega) (by omega), show (x : Int) + 1 = ((x + 1 : Nat) : Int) by omega,
      pNext_L1_eq hl d f (x + 1) (fun i hi => by rw [show x + 1 + i = x + (i + 1) by omega]; exact h1 (i + 1) (by omega)) (by rw [show x + 1 + d = x + (d + 1) by omega]; exact h2) (by omega) (by omega)]
    rw [show x + 1 + d = x + (d + 1) by omega]
theorem pNext_ly {o' p' q' n' m' j' k' : Int} {a b c : Bool} (hl : l.length ≤ 1000000000) (hc : cl.length = l.length) (hN : l.length + 2 ≤ N) (hR : LR l cl q R) : pNext N l cl o' p' q' n' m' j' k' a b c (q : Int) = some (posR q R) := by
  unfold pNext
  cases R with
  | nil =>
    have h : q = l.length := hR
    rw [w64s (by omega) (by omega), show (q : Int) + 1 = ((q + 1 : Nat) : Int) by omega, pNext_L1_eq (by omega) 0 N (q + 1) (fun i hi => by omega) (.inl (by omega)) (by omega) (by omega), Option.bind_some, if_pos (by omega)]
    simp only [posR]
    congr 1
    omega
  | cons u R =>
    obtain ⟨n, hu, hR⟩ := hR
    have hlt := un_lt hu
    have hle := lr_le hR
    obtain ⟨h1, h2, h3, h4, h5, h6⟩ := hu
    rw [w64s (by omega) (by omega), show (q : Int) + 1 = ((q + 1 : Nat) : Int) by omega, pNext_L1_eq (by omega) n N (q + 1) (fun i hi => by rw [show q + 1 + i = q + (i + 1) by omega]; exact h4 (i + 1) (by omega) (by omega)) ?_ (by omega) (by omega), Option.bind_some, if_neg (by omega)]
    · simp only [posR, h1]
      congr 1
      omega
    · cases R with
      | nil => have h : q + n + 1 = l.length := hR; exact .inl (by omega)
      | cons v R =>
        obtain ⟨n', hv, _⟩ := hR
        exact .inr ⟨v.1, by rw [show q + 1 + n = q + n + 1 by omega]; exact hv.2.1, by have := hv.2.2.2.2.2.2.2; omega⟩
theorem pGoOn_ly (hN : 60 ≤ N) (hN2 : l.length + 2 ≤ N) (hl : l.length ≤ 1000000000) (hc : cl.length = l.length) (hL : LL l cl q L) (hR : LR l cl q (u :: R)) (q' : Nat) (hq : posR q (u :: R) = (q' : Int)) (nA : Bool) :
    pGoOn N l cl (posL (posL q L) (L.drop 1)) (posL q L) q q' (posR q' R) (posL (posK q L) ((spk L).drop 1)) (posK q L) nA (num L) (oddR L)
      = some (posL q L, (q : Int), (q' : Int), posR q' R, posR (posR q' R) (R.drop 1), posL (posK q' (u :: L)) ((spk (u :: L)).drop 1), posK q' (u :: L), num L, num (u :: L), oddR (u :: L))
    ∧ posL q' (u :: L) = q ∧ LL l cl q' (u :: L) ∧ LR l cl q' R := by
  obtain ⟨n, hu, hR1⟩ := id hR
  have e : posR q (u :: R) = ((q + n + 1 : Nat) : Int) := by simp only [posR, hu.1]; omega
  rw [e] at hq
  obtain rfl : q + n + 1 = q' := by omega
  have hLL : LL l cl (q + n + 1) (u :: L) := ⟨q, n, rfl, hu, hL⟩
  have ep : posL ((q + n + 1 : Nat) : Int) (u :: L) = q := by simp only [posL, hu.1]; omega
  obtain ⟨p2, e2, hR2⟩ := lr_tl hR1
  have hlk : Lk wdC l cl (q : Int) (u :: R) := un_lk hu R
  have hi : ∀ {o p q0 n m j k : Int} {a b c : Bool} (S : List Int), okS S = true → pIs N l cl o p q0 n m j k a b c (q : Int) S = some (S.contains u.1) := by
    intro o p q0 n m j k a b c S hS
    unfold okS at hS
    rw [Bool.and_eq_true, List.all_eq_true, decide_eq_true_eq] at hS
    refine pIs_eq hc hlk (fun c hc => ?_) (by omega) (by omega)
    have := hS.1 c hc
    rw [Bool.and_eq_true, decide_eq_true_eq, decide_eq_true_eq] at this
    exact this
  refine ⟨?_, ep, hLL, hR1⟩
  unfold pGoOn
  rw [show posR ((q + n + 1 : Nat) : Int) R = (p2 : Int) from e2, pNext_ly hl hc hN2 hR2]
  simp only [hi [5] rfl, hi [27] rfl, hi [24, 23] rfl, hi [32] rfl, Option.bind_some]
  have c5 : ([5] : List Int).contains u.1 = (u.1 == 5) := by rw [List.contains_cons]; simp
  have c27 : ([27] : List Int).contains u.1 = (u.1 == 27) := by rw [List.contains_cons]; simp
  have c32 : ([32] : List Int).contains u.1 = (u.1 == 32) := by rw [List.contains_cons]; simp
  have c24 : ([24, 23] : List Int).contains u.1 = (u.1 == 24 || u.1 == 23) := by rw [List.contains_cons, List.contains_cons]; simp
  rw [c5, c27, c32, c24]
  have e1 : ((q + n + 1 : Nat) : Int) - u.2.2.1 = (q : Int) := by rw [hu.1]; omega
  have ek : posK ((q + n + 1 : Nat) : Int) (u :: L) = if u.1 = 5 then posK q L else (q : Int) := by simp only [posK, e1]
  have ej : posL (posK ((q + n + 1 : Nat) : Int) (u :: L)) ((spk (u :: L)).drop 1) = if u.1 = 5 then posL (posK q L) ((spk L).drop 1) else posL q L := by
    rw [ek]
    by_cases h5 : u.1 = 5
    · rw [if_pos h5, if_pos h5]; simp only [spk, h5, beq_self_eq_true, if_true]
    · rw [if_neg h5, if_neg h5]; simp only [spk, beq_false_of_ne h5]; rfl
  have en : num (u :: L) = (u.1 == 27 || (num L && (u.1 == 24 || u.1 == 23))) := by
    simp only [num]
    by_cases h1 : u.1 = 24
    · simp [h1]
    · by_cases h2 : u.1 = 23
      · simp [h2]
      · simp [h1, h2, beq_false_of_ne h1, beq_false_of_ne h2]
  have eo : oddR (u :: L) = ((u.1 == 32) && !oddR L) := by
    simp only [oddR]
    by_cases h1 : u.1 = 32 <;> simp [h1]
  rw [ej, ek, en, eo]
  by_cases h5 : u.1 = 5
  · simp [h5]; cases num L <;> rfl
  · simp only [h5, beq_false_of_ne h5, if_false]
    cases u.1 == 27 <;> cases num L <;> cases (u.1 == 24 || u.1 == 23) <;> cases u.1 == 32 <;> rfl
end
end Go.Proofs.YtdbimchiecdkoaaGreat

namespace Go.Proofs.YtdbimchiecdkoaaGreat
open Go Go.RowKit Sg
set_option linter.unusedVariables false
set_option linter.unusedSimpArgs false
theorem findL_in : ∀ (T : List (Int × Int × Int)) (r o : Int), (T.all fun x => decide (0 ≤ x.2.2) && decide (x.2.2 ≤ 37)) = true → 0 ≤ o → o ≤ 37 → 0 ≤ findL T r o ∧ findL T r o ≤ 37
  | [], _, o, _, h0, h1 => ⟨h0, h1⟩
  | x :: T, r, o, hT, h0, h1 => by
    rw [List.all_cons, Bool.and_eq_true, Bool.and_eq_true, decide_eq_true_eq, decide_eq_true_eq] at hT
    unfold findL
    split
    · exact hT.1
    · exact findL_in T r o hT.2 h0 h1
theorem breakC_in (r : Int) : 0 ≤ breakC r ∧ breakC r ≤ 37 := by
  rw [break_eq]
  unfold breakS
  split
  · omega
  · split
    · split <;> omega
    · exact findL_in _ _ _ (by kernel_rfl) (by omega) (by omega)
def clF (alone : Bool) : List Int → List Int
  | [] => []
  | x :: l => if Sg.mark (breakC x) = true then (if alone then 0 else 39) :: clF false l else breakC x :: clF (spaced (breakC x)) l
theorem clF_cons (b : Bool) (x : Int) (l : List Int) : clF b (x :: l) = if Sg.mark (breakC x) = true then (if b then 0 else 39) :: clF false l else breakC x :: clF (spaced (breakC x)) l := rfl
theorem clF_len : ∀ (l : List Int) (b : Bool), (clF b l).length = l.length
  | [], _ => rfl
  | x :: l, b => by unfold clF; split <;> simp [clF_len l]
theorem clF_lay : ∀ (rest : List Int) (l cl : List Int) (u : U) (p n : Nat), Un l cl p n u → l.drop (p + n + 1) = rest → cl.drop (p + n + 1) = clF (spaced u.1) rest → cl.length = l.length → LR l cl p (unF breakC wdC u rest)
  | [], l, cl, u, p, n, hu, hl, hc, hlen => by
    have := un_lt hu
    exact ⟨n, hu, by have := List.drop_eq_nil_iff.1 hl; show p + n + 1 = l.length; omega⟩
  | x :: rest, l, cl, u, p, n, hu, hl, hc, hlen => by
    have hlx : l[p + n + 1]? = some x := by rw [← List.head?_drop, hl]; rfl
    have hlt : l.drop (p + n + 1 + 1) = rest := by rw [← List.tail_drop, hl]; rfl
    have hx := breakC_in x
    unfold unF
    by_cases hm : Sg.mark (breakC x) = true
    · by_cases hs : spaced u.1 = true
      · rw [if_neg (by rw [hm, hs]; decide)]
        rw [clF_cons, if_pos hm, hs, if_pos rfl] at hc
        have hcx : cl[p + n + 1]? = some 0 := by rw [← List.head?_drop, hc]; rfl
        have hct : cl.drop (p + n + 1 + 1) = clF false rest := by rw [← List.tail_drop, hc]; rfl
        have hnw : (nw breakC wdC x).1 = 0 := by unfold nw; rw [if_pos hm]
        refine ⟨n, hu, clF_lay rest l cl (nw breakC wdC x) (p + n + 1) 0 ⟨rfl, by rw [hnw]; exact hcx, hlx, fun i h1 h2 => by omega, ⟨x, hlx, rfl⟩, rfl, by rw [hnw]; omega, by rw [hnw]; omega⟩ hlt (by rw [hnw]; exact hct) hlen⟩
      · have hs' : spaced u.1 = false := by simpa using hs
        rw [if_pos (by rw [hm, hs']; decide)]
        rw [clF_cons, if_pos hm, hs', if_neg (by decide)] at hc
        have hcx : cl[p + n + 1]? = some 39 := by rw [← List.head?_drop, hc]; rfl
        have hct : cl.drop (p + n + 1 + 1) = clF false rest := by rw [← List.tail_drop, hc]; rfl
        obtain ⟨h1, h2, h3, h4, h5, h6, h7⟩ := hu
        refine clF_lay rest l cl (upd breakC u x) p (n + 1) ⟨by show u.2.2.1 + 1 = _; omega, h2, h3, fun i hi hi2 => ?_, ⟨x, by rw [show p + (n + 1) = p + n + 1 by omega]; exact hlx, rfl⟩, h6, h7⟩ hlt (by show _ = clF (spaced u.1) rest; rw [hs']; exact hct) hlen
        by_cases e : i = n + 1
        · rw [e, show p + (n + 1) = p + n + 1 by omega]; exact hcx
        · exact h4 i hi (by omega)
    · have hm' : Sg.mark (breakC x) = false := by simpa using hm
      rw [if_neg (by rw [hm']; simp)]
      rw [clF_cons, if_neg hm] at hc
      have hcx : cl[p + n + 1]? = some (breakC x) := by rw [← List.head?_drop, hc]; rfl
      have hct : cl.drop (p + n + 1 + 1) = clF (spaced (breakC x)) rest := by rw [← List.tail_drop, hc]; rfl
      have hnw : (nw breakC wdC x).1 = breakC x := by unfold nw; rw [if_neg hm]
      exact ⟨n, hu, clF_lay rest l cl (nw breakC wdC x) (p + n + 1) 0 ⟨rfl, by rw [hnw]; exact hcx, hlx, fun i h1 h2 => by omega, ⟨x, hlx, rfl⟩, rfl, by rw [hnw]; exact hx.1, by rw [hnw]; exact hx.2⟩ hlt (by rw [hnw]; exact hct) hlen⟩
theorem uns_lay (l : List Int) : LR l (clF true l) 0 (uns breakC wdC l) := by
  cases l with
  | nil => rfl
  | cons x l =>
    have hx := breakC_in x
    unfold uns
    by_cases hm : Sg.mark (breakC x) = true
    · have hnw : (nw breakC wdC x).1 = 0 := by unfold nw; rw [if_pos hm]
      have hc : clF true (x :: l) = 0 :: clF false l := by rw [clF_cons, if_pos hm, if_pos rfl]
      exact clF_lay l (x :: l) (clF true (x :: l)) (nw breakC wdC x) 0 0 ⟨rfl, by rw [hnw, hc]; rfl, rfl, fun i h1 h2 => by omega, ⟨x, rfl, rfl⟩, rfl, by rw [hnw]; omega, by rw [hnw]; omega⟩ rfl (by rw [hnw, hc]; rfl) (clF_len _ _)
    · have hnw : (nw breakC wdC x).1 = breakC x := by unfold nw; rw [if_neg hm]
      have hc : clF true (x :: l) = breakC x :: clF (spaced (breakC x)) l := by rw [clF_cons, if_neg hm]
      exact clF_lay l (x :: l) (clF true (x :: l)) (nw breakC wdC x) 0 0 ⟨rfl, by rw [hnw, hc]; rfl, rfl, fun i h1 h2 => by omega, ⟨x, rfl, rfl⟩, rfl, by rw [hnw]; exact hx.1, by rw [hnw]; exact hx.2⟩ rfl (by rw [hnw, hc]; rfl) (clF_len _ _)
theorem textOf_L1 {N : Nat} {l : List Int} {x11 x21 : Int} (h1 : ∀ c, 0 ≤ c → c ≤ 63 → pHasC N x11 c = some (Sg.mark c)) (h2 : ∀ c, 0 ≤ c → c ≤ 63 → pHasC N x21 c = some (spaced c)) (hl : l.length ≤ 1000000000) :
    ∀ (f i : Nat) (out : List Int) (b : Bool), l.length - i < f → i ≤ l.length → out.length = l.length → pTextOf_L1 N l x11 x21 f out b (i : Int) = some (out.take i ++ clF b (l.drop i))
  | 0, i, out, b, h, _, _ => by omega
  | f + 1, i, out, b, hf, hi, ho => by
    unfold pTextOf_L1
    by_cases h : i < l.length
    · have hx : ix l (i : Int) = some l[i] := ix_of (by omega) (by omega) (by simp [h])
      have hb := breakC_in l[i]
      have hu : ucBk N l[i] = some (breakC l[i]) := rfl
      have hs : ∀ v, setx out (i : Int) v = some (out.set i v) := fun v => by unfold setx; rw [if_pos ⟨by omega, by omega⟩]; simp
      have ho' : ix out (i : Int) = some out[i] := ix_of (by omega) (by omega) (by simp [ho, h])
      have ht : ∀ v (t : List Int), (out.set i v).take (i + 1) ++ t = out.take i ++ v :: t := by
        intro v t
        rw [List.take_add_one]
        simp [ho, h, List.take_set_of_le]
      rw [if_pos (by omega), hx, Option.bind_some, hu, Option.bind_some, h1 _ hb.1 (by omega), Option.bind_some, w64s (by omega) (by omega), show (i : Int) + 1 = ((i + 1 : Nat) : Int) by omega, List.drop_eq_getElem_cons h]
      have ih := fun v b' => textOf_L1 h1 h2 hl f (i + 1) (out.set i v) b' (by omega) h (by simpa using ho)
      cases hm : Sg.mark (breakC l[i]) with
      | true =>
        cases b with
        | true => simp only [ho', Option.bind_some, hs, ih, ht]; rw [clF_cons, if_pos hm, if_pos rfl]
        | false => simp only [ho', Option.bind_some, hs, ih, ht]; rw [clF_cons, if_pos hm, if_neg (by decide)]
      | false => simp only [h2 _ hb.1 (Int.le_trans hb.2 (by decide)), ho', Option.bind_some, hs, ih, ht]; rw [clF_cons, if_neg (by rw [hm]; decide)]
    · rw [if_neg (by omega), List.drop_eq_nil_of_le (by omega), List.take_of_length_le (by omega)]
      simp [clF]
theorem pTextOf_ly {N : Nat} {l : List Int} (hN : 60 ≤ N) (hN2 : l.length + 2 ≤ N) (hl : l.length ≤ 1000000000) : pTextOf N l = some (clF true l) := by
  unfold pTextOf
  have i1 : In63 [9, 10] := by intro c hc; simp at hc; omega
  have i2 : In63 [1, 2, 3, 4, 5, 6] := by intro c hc; simp at hc; omega
  have e1 := pSetOf_eq (N := N) i1 (by simp) (by simp; omega)
  have e2 := pSetOf_eq (N := N) i2 (by simp) (by simp; omega)
  rw [e1, Option.bind_some, e2, Option.bind_some]
  have em : mkx (l.length : Int) = some (List.replicate l.length 0) := by unfold mkx; rw [if_pos ⟨by omega, by omega⟩]; simp
  rw [em, Option.bind_some]
  have := textOf_L1 (N := N) (l := l) (fun c h0 h1 => by rw [pHas_eq (N' := N) i1 (by simp) (by simp; omega) e1 h0 h1]; congr 1; rw [Bool.eq_iff_iff]; simp [Sg.mark])
    (fun c h0 h1 => by rw [pHas_eq (N' := N) i2 (by simp) (by simp; omega) e2 h0 h1]; congr 1; rw [Bool.eq_iff_iff]; simp [spaced]; omega) hl N 0 (List.replicate l.length 0) true (by omega) (by omega) (by simp)
  rw [show ((0 : Nat) : Int) = 0 from rfl] at this
  rw [this]
  simp
end Go.Proofs.YtdbimchiecdkoaaGreat
