/-
  The program's Match is the document's: by what is open.
-/
import Derived.Test.YtjndolnjhbgflaaP0
import Derived.Test.YtjndolnjhbgflaaE10
namespace Go.Proofs.Ytjndolnjhbgflaa
open Go Go.RowKit
set_option linter.unusedVariables false
set_option linter.unusedSectionVars false
set_option linter.unusedSimpArgs false

theorem pInit_eq (N : Nat) (c : Int) : pInit N c = some (isInit c) := by
  unfold pInit isInit
  by_cases h1 : c = 20
  · subst h1; rfl
  rw [if_neg h1]
  by_cases h2 : c = 21
  · subst h2; rfl
  rw [if_neg h2]
  congr 1
  simp [h1, h2]

/-- what is open is ended, the last one first -/
def closeA : Nat → Nat → List Nat → List Int → List Int → List Int
  | _, _, [], out, _ => out
  | d, k, j :: st, out, r => closeA (d + 1) k st (pairUp j k out (closeR d r)) r

theorem closeR_init {d : Nat} {c : Int} {r : List Int} (h : isInit c = true) : closeR d (c :: r) = (closeR (d + 1) r).map (· + 1) := by
  have h' := h
  rw [isInit_iff] at h'
  rw [closeR, if_neg (by omega), if_pos h]
theorem closeR_b {d : Nat} {r : List Int} : closeR d (11 :: r) = none := by rw [closeR, if_pos rfl]
theorem closeR_p {d : Nat} {r : List Int} (h : 2 ≤ d) : closeR d (23 :: r) = (closeR (d - 1) r).map (· + 1) := by
  rw [closeR, if_neg (by decide), if_neg (by decide), if_pos rfl, if_neg (by omega)]
theorem closeR_p1 {r : List Int} : closeR 1 (23 :: r) = some 0 := rfl
theorem closeR_o {d : Nat} {c : Int} {r : List Int} (h1 : c ≠ 11) (h2 : c ≠ 23) (h3 : isInit c = false) : closeR d (c :: r) = (closeR d r).map (· + 1) := by
  rw [closeR, if_neg h1, if_neg (by rw [h3]; decide), if_neg h2]

theorem closeA_init {c : Int} {r : List Int} (h : isInit c = true) : ∀ (st : List Nat) (d k : Nat) (out : List Int), closeA d k st out (c :: r) = closeA (d + 1) (k + 1) st out r
  | [], _, _, _ => rfl
  | j :: st, d, k, out => by rw [closeA, closeA, closeR_init h, pairUp_next, closeA_init h st]
theorem closeA_b {r : List Int} : ∀ (st : List Nat) (d k : Nat) (out : List Int), closeA d k st out (11 :: r) = out
  | [], _, _, _ => rfl
  | j :: st, d, k, out => by rw [closeA, closeR_b, closeA_b st]; rfl
theorem closeA_p {r : List Int} : ∀ (st : List Nat) (d k : Nat) (out : List Int), 2 ≤ d → closeA d k st out (23 :: r) = closeA (d - 1) (k + 1) st out r
  | [], _, _, _, _ => rfl
  | j :: st, d, k, out, h => by rw [closeA, closeA, closeR_p h, pairUp_next, closeA_p st (d + 1) k _ (by omega), show d + 1 - 1 = d - 1 + 1 by omega]
theorem closeA_o {c : Int} {r : List Int} (h1 : c ≠ 11) (h2 : c ≠ 23) (h3 : isInit c = false) : ∀ (st : List Nat) (d k : Nat) (out : List Int), closeA d k st out (c :: r) = closeA d (k + 1) st out r
  | [], _, _, _ => rfl
  | j :: st, d, k, out => by rw [closeA, closeA, closeR_o h1 h2 h3, pairUp_next, closeA_o h1 h2 h3 st]

theorem closeR_lt : ∀ (r : List Int) (d e o p : Nat), 1 ≤ d → d < e → closeR d r = some o → closeR e r = some p → o < p
  | [], _, _, _, _, _, _, h, _ => by cases h
  | c :: r, d, e, o, p, h0, hde, h1, h2 => by
    by_cases h11 : c = 11
    · subst h11; rw [closeR_b] at h1; cases h1
    cases hc : isInit c with
    | true =>
      rw [closeR_init hc] at h1 h2
      obtain ⟨o', k1, rfl⟩ := Option.map_eq_some_iff.1 h1
      obtain ⟨p', k2, rfl⟩ := Option.map_eq_some_iff.1 h2
      have := closeR_lt r (d + 1) (e + 1) o' p' (by omega) (by omega) k1 k2
      omega
    | false =>
      by_cases h23 : c = 23
      · subst h23
        rw [closeR_p (by omega)] at h2
        obtain ⟨p', k2, rfl⟩ := Option.map_eq_some_iff.1 h2
        by_cases hd : d ≤ 1
        · obtain rfl : d = 1 := by omega
          rw [closeR_p1] at h1
          injection h1 with h1
          omega
        · rw [closeR_p (by omega)] at h1
          obtain ⟨o', k1, rfl⟩ := Option.map_eq_some_iff.1 h1
          have := closeR_lt r (d - 1) (e - 1) o' p' (by omega) (by omega) k1 k2
          omega
      · rw [closeR_o h11 h23 hc] at h1 h2
        obtain ⟨o', k1, rfl⟩ := Option.map_eq_some_iff.1 h1
        obtain ⟨p', k2, rfl⟩ := Option.map_eq_some_iff.1 h2
        have := closeR_lt r d e o' p' h0 hde k1 k2
        omega

theorem pairUp_comm {x j k : Nat} {out : List Int} {a b : Option Nat} (hxj : x ≠ j) (hx : x < k) (hj : j < k) (hab : ∀ o p, a = some o → b = some p → o ≠ p) :
    pairUp j k (pairUp x k out a) b = pairUp x k (pairUp j k out b) a := by
  cases a with
  | none => rfl
  | some o =>
    cases b with
    | none => rfl
    | some p =>
      have := hab o p rfl rfl
      simp only [pairUp]
      rw [List.set_comm (l := (out.set x _).set (k + o) _) _ _ (show j ≠ k + p by omega)]
      apply List.ext_getElem?
      intro m
      simp only [List.getElem?_set, List.length_set]
      grind

theorem closeA_up (x k : Nat) (r : List Int) (hx : x < k) : ∀ (st : List Nat) (d : Nat) (out : List Int), 2 ≤ d → (∀ j ∈ st, j < x) → closeA d k st (pairUp x k out (closeR 1 r)) r = pairUp x k (closeA d k st out r) (closeR 1 r)
  | [], _, _, _, _ => rfl
  | j :: st, d, out, h, hs => by
    rw [closeA, closeA, pairUp_comm (by have := hs j (by simp); omega) hx (by have := hs j (by simp); omega) (fun o p h1 h2 => by have := closeR_lt r 1 d o p (by omega) (by omega) h1 h2; omega),
      closeA_up x k r hx st (d + 1) _ (by omega) fun y hy => hs y (by simp [hy])]

/-- what is open, as the program has it -/
def opn (st : List Nat) : List Int := (st.map fun j => ((j : Nat) : Int)).reverse

theorem opn_len (st : List Nat) : (opn st).length = st.length := by simp [opn]
theorem opn_cons (j : Nat) (st : List Nat) : opn (j :: st) = opn st ++ [(j : Int)] := by simp [opn]

theorem restM (i n : Nat) (a : List Int) (ha : a.length = n) (hi : i < n) : a.take i ++ List.replicate (n - i) (-1) = (a.set i (-1)).take (i + 1) ++ List.replicate (n - (i + 1)) (-1) := by
  rw [take_succ_set _ _ _ (by omega), List.append_assoc, show n - i = (n - (i + 1)) + 1 by omega, List.replicate_succ]
  rfl

theorem pMatch_loop (N : Nat) (l : List Int) (hl : l.length ≤ 400000000) : ∀ (n i k : Nat) (st : List Nat) (a : List Int), i + n = l.length → n < k → a.length = l.length → (∀ j ∈ st, j < i) → st.length ≤ i → st.Nodup →
    pMatch_L1 N l k a (opn st) (i : Int) = some (matchF l n i (closeA 1 i st (a.take i ++ List.replicate (l.length - i) (-1)) (l.drop i)))
  | 0, i, 0, _, _, _, h, _, _, _, _ => absurd h (Nat.not_lt_zero _)
  | _ + 1, i, 0, _, _, _, h, _, _, _, _ => absurd h (Nat.not_lt_zero _)
  | 0, i, k + 1, st, a, h, _, ha, _, _, _ => by
    unfold pMatch_L1
    have : i = l.length := by omega
    subst this
    rw [if_neg (by omega), List.take_of_length_le (by omega), Nat.sub_self, List.drop_length, matchF]
    have : ∀ (st : List Nat) (d : Nat) (out : List Int), closeA d l.length st out [] = out := by
      intro st
      induction st with
      | nil => intro d out; rfl
      | cons j st ih => intro d out; rw [closeA, ih]; rfl
    rw [this]
    simp
  | n + 1, i, k + 1, st, a, h, hk, ha, hst, hsl, hnd => by
    have hi : i < l.length := by omega
    rw [restM i l.length a ha hi, drop_e hi, matchF]
    conv => lhs; unfold pMatch_L1
    rw [if_pos (by omega), ixe hi, Option.bind_some, ixe (by omega), Option.bind_some, setxe _ (by omega), Option.bind_some, pInit_eq, Option.bind_some, wne i (by omega)]
    have hb : (a.set i (-1)).length = l.length := by simp [ha]
    have hg : (a.set i (-1)).getD i 0 = -1 := by rw [List.getD_eq_getElem?_getD, List.getElem?_set_self (by omega)]; rfl
    generalize a.set i (-1) = b at hb hg ⊢
    have ih := pMatch_loop N l hl n (i + 1) k
    generalize l.getD i 0 = c
    cases hc : isInit c with
    | true =>
      simp only [if_true]
      have hap : apx (opn st) [(i : Int)] = some (opn (i :: st)) := by
        unfold apx
        rw [if_pos (by rw [opn_len]; simp; omega), opn_cons]
      rw [hap, Option.bind_some, ih (i :: st) b (by omega) (by omega) hb (fun j hj => by
        rcases List.mem_cons.1 hj with rfl | hj
        · omega
        · have := hst j hj; omega) (by simp; omega) (List.nodup_cons.2 ⟨fun hm => by have := hst i hm; omega, hnd⟩)]
      congr 2
      rw [closeA, closeA_init hc, closeA_up i (i + 1) _ (by omega) st 2 _ (by omega) hst]
    | false =>
      simp only [Bool.false_eq_true, if_false]
      by_cases h23 : c = 23
      · subst h23
        rw [if_pos rfl]
        cases st with
        | nil =>
          rw [if_neg (by simp [opn])]
          simp only [Option.bind_some]
          rw [if_neg (by decide), ih [] b (by omega) (by omega) hb (by simp) (by simp) List.nodup_nil]
          rfl
        | cons j st =>
          have hj := hst j (by simp)
          have hlen := opn_len (j :: st)
          have hw : IntKind.i64.wrap ((((opn (j :: st)).length : Nat) : Int) - 1) = ((st.length : Nat) : Int) := by
            rw [hlen, List.length_cons, w64e (by omega) (by simp at hsl; omega)]; omega
          have hix : ix (opn (j :: st)) ((st.length : Nat) : Int) = some (j : Int) := by
            rw [ixe (by rw [hlen]; simp), opn_cons]
            congr 1
            rw [List.getD_eq_getElem?_getD, List.getElem?_append_right (by rw [opn_len]; exact Nat.le_refl _), opn_len]
            simp
          have hct : cutx (opn (j :: st)) 0 ((st.length : Nat) : Int) = some (opn st) := by
            unfold cutx
            rw [if_pos ⟨by omega, by omega, by rw [hlen]; simp; omega⟩, opn_cons]
            congr 1
            have : (opn st ++ [(j : Int)]).take st.length = opn st := by rw [← opn_len st, List.take_left]
            simpa using this
          rw [if_pos (by rw [hlen]; simp)]
          simp only [Option.bind_some, hw, hix]
          rw [ixe (by omega), Option.bind_some, setxe _ (by omega), Option.bind_some, ixe (by rw [List.length_set]; omega), Option.bind_some, setxe _ (by rw [List.length_set]; omega), Option.bind_some, hct, Option.bind_some,
            ih st ((b.set i (j : Int)).set j (i : Int)) (by omega) (by omega) (by simp [hb]) (fun y hy => by have := hst y (by simp [hy]); omega) (by simp at hsl; omega) (List.nodup_cons.1 hnd).2]
          congr 2
          rw [closeA, closeR_p1, closeA_p st 2 i _ (by omega)]
          congr 1
          simp only [pairUp, Nat.add_zero]
          apply List.ext_getElem?
          intro m
          simp only [List.getElem?_append, List.getElem?_take, List.getElem?_set, List.length_set, List.length_take, List.getElem?_replicate, List.length_append, List.length_replicate]
          grind
      · rw [if_neg h23]
        simp only [Option.bind_some]
        by_cases h11 : c = 11
        · subst h11
          have hct : cutx (opn st) 0 (0 : Int) = some (opn []) := by
            unfold cutx
            rw [if_pos ⟨by omega, by omega, by omega⟩]
            rfl
          rw [if_pos rfl, hct, Option.bind_some, ih [] b (by omega) (by omega) hb (by simp) (by simp) List.nodup_nil, closeA_b]
          rfl
        · rw [if_neg h11, ih st b (by omega) (by omega) hb (fun y hy => by have := hst y hy; omega) (by omega) hnd, closeA_o h11 h23 hc]

theorem pMatch_eq (N : Nat) (l : List Int) (hl : l.length ≤ 400000000) (hN : l.length < N) : pMatch N l = some (matchS l) := by
  unfold pMatch
  rw [mkx_nat l.length (by omega), Option.bind_some, show (0 : Int) = ((0 : Nat) : Int) from rfl, show ([] : List Int) = opn [] from rfl,
    pMatch_loop N l hl l.length 0 N [] _ (by omega) hN (by simp) (by simp) (by simp) List.nodup_nil]
  simp [closeA, matchS]
end Go.Proofs.Ytjndolnjhbgflaa
