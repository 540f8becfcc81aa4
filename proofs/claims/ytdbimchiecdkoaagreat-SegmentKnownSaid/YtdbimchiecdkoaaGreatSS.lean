/-
  The program's breaks are those of the lists.
-/
import Derived.Test.YtdbimchiecdkoaaGreatP4
import Derived.Test.YtdbimchiecdkoaaGreatSE
import Derived.Test.YtdbimchiecdkoaaGreatSP
import Derived.Test.YtdbimchiecdkoaaGreatSg1
namespace Go.Proofs.YtdbimchiecdkoaaGreat
open Go Go.RowKit Sg
set_option linter.unusedVariables false
set_option linter.unusedSimpArgs false
section
variable {N : Nat} {l cl : List Int}
theorem lr_len : ∀ (R : List U) (q : Nat), LR l cl q R → R.length + q ≤ l.length
  | [], q, h => by have h : q = l.length := h; simp; omega
  | u :: R, q, h => by
    obtain ⟨n, hu, hR⟩ := h
    have := lr_len R _ hR
    simp only [List.length_cons]
    omega
theorem brk_L1 (hN : 60 ≤ N) (hN2 : l.length + 2 ≤ N) (hl : l.length ≤ 1000000000) (hc : cl.length = l.length) : ∀ (R L : List U) (u : U) (q f : Nat) (out : List Int) (nA : Bool), nA = num L → LL l cl q (u :: L) → LR l cl q R → out.length = l.length + 1 → (∀ i, q ≤ i → i ≤ l.length → out[i]? = some 0) → R.length < f →
    pBreaks_L1 N l cl f (posL (posL q (u :: L)) L) (posL q (u :: L)) q (posR q R) (posR (posR q R) (R.drop 1)) (posL (posK q (u :: L)) ((spk (u :: L)).drop 1)) (posK q (u :: L)) nA (num (u :: L)) (oddR (u :: L)) out
      = some (out.take q ++ (body (u :: L) R ++ [0]))
  | _, _, _, _, 0, _, _, _, _, _, _, _, hf => by omega
  | [], L, u, q, f + 1, out, nA, hnA, hL, hR, ho, hz, hf => by
    have hq : q = l.length := hR
    unfold pBreaks_L1
    rw [if_neg (by omega)]
    congr 1
    have h0 := hz q (Nat.le_refl _) (by omega)
    have : out = out.take q ++ out.drop q := (List.take_append_drop q out).symm
    rw [List.drop_eq_getElem_cons (by omega), List.drop_eq_nil_of_le (by omega)] at this
    have e : out[q]'(by omega) = 0 := by rw [List.getElem?_eq_getElem (by omega)] at h0; exact Option.some.inj h0
    rw [e] at this
    exact this
  | v :: R, L, u, q, f + 1, out, nA, hnA, hL, hR, ho, hz, hf => by
    obtain ⟨q', e', hR'⟩ := lr_tl hR
    have hlt : q < l.length := by obtain ⟨n, hv, _⟩ := id hR; have := un_lt hv; omega
    obtain ⟨n, hv, _⟩ := id hR
    have hqn : q' = q + n + 1 := by simp only [posR, hv.1] at e'; omega
    have hle := lr_le hR'
    have h0 := hz q (Nat.le_refl _) (by omega)
    have ht := pTold_ly (pl_of hN hl hc hL hR) nA (num (u :: L)) (oddR (u :: L))
    have hg := pGoOn_ly hN hN2 hl hc hL hR q' e' nA
    have hb : rest0 nA (num (u :: L)) (oddR (u :: L)) (u :: L) (v :: R) = betw (u :: L) (v :: R) := by rw [hnA]; exact rest_betw (u :: L) (v :: R)
    unfold pBreaks_L1
    rw [if_pos (by omega), ht, Option.bind_some, ix_of (by omega) (by omega) (by simpa using h0), Option.bind_some, hb]
    have hs : setx out (q : Int) (betw (u :: L) (v :: R)) = some (out.set q (betw (u :: L) (v :: R))) := by unfold setx; rw [if_pos ⟨by omega, by omega⟩]; simp
    have hgo := hg.1
    rw [List.drop_succ_cons, List.drop_zero] at hgo
    rw [hs, Option.bind_some, e', List.drop_succ_cons, List.drop_zero, hgo, Option.bind_some]
    have ih := brk_L1 hN hN2 hl hc R (u :: L) v q' f (out.set q (betw (u :: L) (v :: R))) (num (u :: L)) rfl hg.2.2.1 hg.2.2.2 (by simpa using ho) (fun i h1 h2 => by
      rw [List.getElem?_set_ne (by omega)]; exact hz i (by omega) h2) (by simpa using hf)
    rw [hg.2.1] at ih
    refine Eq.trans ih ?_
    congr 1
    rw [body]
    have hn : zs v.2.2.1 = List.replicate n 0 := by unfold zs; rw [hv.1]; congr 1; omega
    rw [hn, if_neg (by simp)]
    have hsplit : (out.set q (betw (u :: L) (v :: R))).take q' = out.take q ++ betw (u :: L) (v :: R) :: List.replicate n 0 := by
      apply List.ext_getElem?
      intro i
      by_cases h1 : i < q
      · rw [List.getElem?_take_of_lt (by omega), List.getElem?_set_ne (by omega), List.getElem?_append_left (by simp; omega), List.getElem?_take_of_lt h1]
      · rw [List.getElem?_append_right (by simp; omega)]
        have hlen : (out.take q).length = q := by simp; omega
        rw [hlen]
        by_cases h2 : i = q
        · subst h2
          rw [List.getElem?_take_of_lt (by omega), Nat.sub_self, List.getElem?_set_self (by omega)]
          rfl
        · rw [show i - q = (i - q - 1) + 1 by omega, List.getElem?_cons_succ, List.getElem?_replicate]
          by_cases h3 : i < q'
          · rw [if_pos (by omega), List.getElem?_take_of_lt h3, List.getElem?_set_ne (by omega)]
            exact hz i (by omega) (by omega)
          · rw [if_neg (by omega), List.getElem?_take_eq_none (by omega)]
    rw [hsplit]
    simp [List.append_assoc]
end
theorem pBreaks_ly {N : Nat} {l : List Int} (hN : 60 ≤ N) (hN2 : l.length + 2 ≤ N) (hl : l.length ≤ 999999999) : pBreaks N l = some (brk breakC wdC l) := by
  have hl' : l.length ≤ 1000000000 := by omega
  have hlay := uns_lay l
  have hclen := clF_len l true
  have hru : (pRules N) = some () := rfl
  unfold pBreaks
  have em : mkx (IntKind.i64.wrap ((l.length : Int) + 1)) = some (List.replicate (l.length + 1) 0) := by rw [w64s (by omega) (by omega)]; unfold mkx; rw [if_pos ⟨by omega, by omega⟩]; congr 2
  rw [em, Option.bind_some, hru, Option.bind_some]
  have hfin : ∀ (X : List Int), X.length = l.length → (((some (X ++ [0]) : Option (List Int)).bind fun l14 => ((ix l14 (l.length : Int)).bind fun _x98 => ((setx l14 (l.length : Int) 2).bind fun l102 => some l102)))) = some (X ++ [2]) := by
    intro X hX
    rw [Option.bind_some, ix_of (v := 0) (by omega) (by simp; omega) (by simp [← hX]), Option.bind_some]
    have : setx (X ++ [0]) (l.length : Int) 2 = some (X ++ [2]) := by
      unfold setx; rw [if_pos ⟨by omega, by simp; omega⟩]; congr 1; simp [← hX]
    rw [this]; rfl
  cases hu : uns breakC wdC l with
  | nil =>
    rw [hu] at hlay
    have h0 : 0 = l.length := hlay
    obtain rfl : l = [] := List.length_eq_zero_iff.1 h0.symm
    obtain ⟨k, rfl⟩ : ∃ k, N = k + 60 := ⟨N - 60, by omega⟩
    unfold pFirst
    rw [pTextOf_ly hN hN2 hl', Option.bind_some]
    have hR0 : LR [] (clF true []) 0 [] := rfl
    have n1 := fun {o' p' q' n' m' j' k' : Int} {a b c : Bool} => pNext_ly (N := k + 60) (o' := o') (p' := p') (q' := q') (n' := n') (m' := m') (j' := j') (k' := k') (a := a) (b := b) (c := c) hl' hclen hN2 hR0
    have hi : ∀ {o p q0 n m j k' : Int} {a b c : Bool} (S : List Int), okS S = true → pIs (k + 60) [] (clF true []) o p q0 n m j k' a b c 0 S = some (S.contains 99) := by
      intro o p q0 n m j k' a b c S hS
      unfold okS at hS
      rw [Bool.and_eq_true, List.all_eq_true, decide_eq_true_eq] at hS
      refine pIs_eq (X := []) rfl (by show ¬ _; simp) (fun c hc => ?_) (by omega) (by omega)
      have := hS.1 c hc
      rw [Bool.and_eq_true, decide_eq_true_eq, decide_eq_true_eq] at this
      exact this
    have g0 : pGoOn (k + 60) [] (clF true []) (-1) (-1) 0 0 0 (-1) (-1) false false false = some (-1, 0, 0, 0, 0, -1, 0, false, false, false) := by
      unfold pGoOn
      have n0 := fun {o' p' q' n' m' j' k' : Int} {a b c : Bool} => (n1 (o' := o') (p' := p') (q' := q') (n' := n') (m' := m') (j' := j') (k' := k') (a := a) (b := b) (c := c))
      simp only [show ((0 : Nat) : Int) = 0 from rfl] at n0
      simp only [n0, posR, hi [5] rfl, hi [27] rfl, hi [24, 23] rfl, hi [32] rfl, Option.bind_some]
      rfl
    have n0 := fun {o' p' q' n' m' j' k' : Int} {a b c : Bool} => (n1 (o' := o') (p' := p') (q' := q') (n' := n') (m' := m') (j' := j') (k' := k') (a := a) (b := b) (c := c))
    simp only [show ((0 : Nat) : Int) = 0 from rfl] at n0
    simp only [n0, posR, Option.bind_some, g0]
    exact hfin [] rfl
  | cons u R =>
    rw [hu] at hlay
    have hLL : LL l (clF true l) 0 [] := rfl
    obtain ⟨q', e', hR'⟩ := lr_tl hlay
    rw [List.drop_succ_cons, List.drop_zero] at hR'
    obtain ⟨q2, e2, hR2⟩ := lr_tl hR'
    have hg := pGoOn_ly hN hN2 hl' hclen hLL hlay q' e' false
    have n1 := fun {o' p' q' n' m' j' k' : Int} {a b c : Bool} => pNext_ly (o' := o') (p' := p') (q' := q') (n' := n') (m' := m') (j' := j') (k' := k') (a := a) (b := b) (c := c) hl' hclen hN2 hlay
    have n2 := fun {o' p' q' n' m' j' k' : Int} {a b c : Bool} => pNext_ly (o' := o') (p' := p') (q' := q') (n' := n') (m' := m') (j' := j') (k' := k') (a := a) (b := b) (c := c) hl' hclen hN2 hR'
    unfold pFirst
    rw [pTextOf_ly hN hN2 hl', Option.bind_some]
    simp only [show ((0 : Int)) = ((0 : Nat) : Int) from rfl, n1, Option.bind_some, e', n2]
    have hgo := hg.1
    have z1 : posL ((0 : Nat) : Int) ([] : List U) = -1 := rfl
    have z2 : posK ((0 : Nat) : Int) ([] : List U) = -1 := rfl
    have z3 : posL (-1) (([] : List U).drop 1) = -1 := rfl
    have z4 : posL (-1) ((spk ([] : List U)).drop 1) = -1 := rfl
    have z5 : num ([] : List U) = false := rfl
    have z6 : oddR ([] : List U) = false := rfl
    rw [z1, z2, z3, z4, z5, z6] at hgo
    rw [hgo, Option.bind_some]
    have ih := brk_L1 hN hN2 hl' hclen R [] u q' N (List.replicate (l.length + 1) 0) false rfl hg.2.2.1 hg.2.2.2 (by simp) (fun i h1 h2 => by rw [List.getElem?_replicate, if_pos (by omega)]) (by have := lr_len _ _ hlay; simp only [List.length_cons] at this; omega)
    rw [hg.2.1] at ih
    have hb : brk breakC wdC l = body [] (u :: R) ++ [2] := by unfold brk; rw [hu]
    have hX : (List.replicate (l.length + 1) (0 : Int)).take q' ++ (body [u] R ++ [0]) = body [] (u :: R) ++ [0] := by
      obtain ⟨n, hun, _⟩ := id hlay
      have hqn : q' = n + 1 := by simp only [posR, hun.1] at e'; omega
      have hlt := un_lt hun
      have hn : zs u.2.2.1 = List.replicate n 0 := by unfold zs; rw [hun.1]; congr 1; omega
      rw [List.take_replicate, Nat.min_eq_left (by omega), hqn, body, hn]
      simp [List.replicate_succ]
    rw [hX] at ih
    refine Eq.trans (congrArg (fun z => Option.bind z _) ih) ?_
    rw [hb]
    have hlen := brk_len (cls := breakC) (wd := wdC) l
    rw [hb] at hlen
    exact hfin (body [] (u :: R)) (by simpa using hlen)
end Go.Proofs.YtdbimchiecdkoaaGreat
