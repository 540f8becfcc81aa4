/-
  Several texts in one: Ln, Lk, Op5.
-/
import Derived.Test.YtijmponhkabeiaaLj
import Derived.Test.YtijmponhkabeiaaRows
import Derived.Test.YtijmponhkabeiaaM8
namespace Go.Proofs.Ytijmponhkabeiaa
open Go Go.RowKit
set_option linter.unusedVariables false

theorem w64j {x : Int} (h0 : -9223372036854775808 ≤ x) (h1 : x ≤ 9223372036854775807) : IntKind.i64.wrap x = x := by rw [IntKind.wrap_i64]; omega
theorem wn1 (i : Nat) (h : i ≤ 1000000000) : IntKind.i64.wrap ((i : Int) + 1) = ((i + 1 : Nat) : Int) := by rw [w64j (by omega) (by omega)]; simp
theorem ixg_nat {α : Type} {l : List α} {i : Nat} (h : i < l.length) : ixg l (i : Int) = some l[i] := by
  unfold ixg
  rw [if_pos (by omega)]
  simp [h]
theorem mapL_getD {tags : List Tg} {i : Nat} (h : i < tags.length) : (tags.map tagL).getD i [] = tagL tags[i] := by simp [List.getD_eq_getElem?_getD, h]
theorem getD_at {l : List (List Int)} {i : Nat} (h : i < l.length) : l.getD i [] = l[i] := by simp [List.getD_eq_getElem?_getD, h]
theorem ixj {l : List Int} {i : Nat} (h : i < l.length) : ix l (i : Int) = some (l.getD i 0) := by
  unfold ix
  rw [if_pos (by omega)]
  rfl

theorem ord_loop (N : Nat) (p0 : List Tg) (hl : p0.length ≤ 1000000) : ∀ k i : Nat, i ≤ p0.length → p0.length - i < k → inOrder (p0.map tagL) i = true →
    rJoin_L1 N p0 k (i : Int) = some (if inOrder (p0.map tagL) p0.length = true then Ctl.go () else Ctl.ret ([], 2))
  | 0, i, _, h, _ => absurd h (Nat.not_lt_zero _)
  | k + 1, i, hi, hk, ho => by
    unfold rJoin_L1
    by_cases hn : i = p0.length
    · rw [if_neg (by omega), ← hn, if_pos ho]
    · have hlt : i < p0.length := by omega
      rw [if_pos (by omega)]
      have hnx := inOrder_next (p0.map tagL) i
      by_cases h0 : i = 0
      · subst h0
        rw [if_neg (by omega), wn1 _ (by omega)]
        exact ord_loop N p0 hl k 1 (by omega) (by omega) (by rw [hnx, ho]; rfl)
      · have hw : IntKind.i64.wrap ((i : Int) - 1) = ((i - 1 : Nat) : Int) := by rw [w64j (by omega) (by omega)]; omega
        rw [if_pos (by omega), hw, ixg_nat (show i - 1 < p0.length by omega), ixg_nat hlt, wn1 _ (by omega)]
        simp only [Option.bind_some, hLess]
        rw [ho, mapL_getD (show i - 1 < p0.length by omega), mapL_getD hlt, decide_eq_false h0, Bool.false_or, Bool.true_and] at hnx
        show (match lessL (tagL p0[i - 1]) (tagL p0[i]) with | true => _ | false => _) = _
        cases hb : lessL (tagL p0[i - 1]) (tagL p0[i]) with
        | true =>
          rw [hb] at hnx
          exact ord_loop N p0 hl k (i + 1) (by omega) (by omega) hnx
        | false =>
          rw [hb] at hnx
          have := inOrder_less (p0.map tagL) (i + 1) (p0.length - (i + 1)) hnx
          rw [show i + 1 + (p0.length - (i + 1)) = p0.length by omega] at this
          rw [this]
          rfl

theorem up_eq (N n : Nat) (h : n ≤ 1000000000) : rUp N (n : Int) = some ((upN n : Nat) : Int) := by
  unfold rUp upN
  rw [w64j (x := (n : Int) + 3) (by omega) (by omega), show ((n : Int) + 3) = ((n + 3 : Nat) : Int) by omega, show Int.tdiv ((n + 3 : Nat) : Int) 4 = (((n + 3) / 4 : Nat) : Int) from rfl, w64j (x := (((n + 3) / 4 : Nat) : Int)) (by omega) (by omega), w64j (by omega) (by omega)]
  simp

theorem fill_loop (N : Nat) : ∀ m k (l : List Int), (l.length + m) % 4 = 0 → m < 4 → m < k → l.length ≤ 900000000 → rJoin_L3 N k l = some (l ++ List.replicate m 0)
  | _, 0, _, _, _, h, _ => absurd h (Nat.not_lt_zero _)
  | 0, k + 1, l, h, _, _, _ => by
    unfold rJoin_L3
    rw [if_neg (by have : Int.tmod ((l.length : Nat) : Int) 4 = ((l.length % 4 : Nat) : Int) := rfl; omega)]
    simp
  | m + 1, k + 1, l, h, hm, hk, hl => by
    unfold rJoin_L3
    rw [if_pos (by have : Int.tmod ((l.length : Nat) : Int) 4 = ((l.length % 4 : Nat) : Int) := rfl; omega)]
    have ha : apx l [0] = some (l ++ [0]) := by unfold apx; rw [if_pos (by simp; omega)]
    rw [ha, Option.bind_some, fill_loop N m k (l ++ [0]) (by simp; omega) (by omega) (by omega) (by simp; omega)]
    simp [List.replicate_succ]

theorem set_getD (l : List Int) (i j : Nat) (v : Int) : (l.set i v).getD j 0 = if i = j ∧ i < l.length then v else l.getD j 0 := by
  simp only [List.getD_eq_getElem?_getD, List.getElem?_set]
  by_cases h : i = j
  · subst h
    by_cases h2 : i < l.length
    · simp [h2]
    · simp [h2]
  · simp [h]

theorem set_four (l : List Int) (p : Nat) (hp : p + 4 ≤ l.length) (a b c d : Int) : ((((l.set p a).set (p + 1) b).set (p + 2) c).set (p + 3) d) = setFour l p [a, b, c, d] := by
  refine ext_getD (by rw [four_len l p _ hp rfl]; simp) fun j hj => ?_
  rw [four_get l p _ hp rfl, set_getD, set_getD, set_getD, set_getD]
  simp only [List.length_set]
  by_cases h3 : j = p + 3
  · subst h3; rw [if_pos (by omega), if_pos (by omega), show p + 3 - p = 3 by omega]; rfl
  by_cases h2 : j = p + 2
  · subst h2; rw [if_neg (by omega), if_pos (by omega), if_pos (by omega), show p + 2 - p = 2 by omega]; rfl
  by_cases h1 : j = p + 1
  · subst h1; rw [if_neg (by omega), if_neg (by omega), if_pos (by omega), if_pos (by omega), show p + 1 - p = 1 by omega]; rfl
  by_cases h0 : j = p
  · subst h0; rw [if_neg (by omega), if_neg (by omega), if_neg (by omega), if_pos (by omega), if_pos (by omega), show j - j = 0 by omega]; rfl
  rw [if_neg (by omega), if_neg (by omega), if_neg (by omega), if_neg (by omega), if_neg (by omega)]

theorem setx_at {l : List Int} {i : Nat} (v : Int) (h : i < l.length) : setx l (i : Int) v = some (l.set i v) := by
  unfold setx; rw [if_pos (by omega)]; simp

theorem zero_loop (N k p : Nat) (l : List Int) (hp : p + 4 ≤ l.length) (hl : l.length ≤ 900000000) : rJoin_L4 N (p : Int) (k + 5) l 0 = some (setFour l p [0, 0, 0, 0]) := by
  have hw : ∀ i : Nat, i < 4 → IntKind.i64.wrap ((p : Int) + (i : Int)) = ((p + i : Nat) : Int) := fun i hi => by rw [w64j (by omega) (by omega)]; simp
  have step : ∀ (k i : Nat) (m : List Int), i < 4 → m.length = l.length → rJoin_L4 N (p : Int) (k + 1) m (i : Int) = rJoin_L4 N (p : Int) k (m.set (p + i) 0) ((i + 1 : Nat) : Int) := fun k i m hi hm => by
    conv => lhs; unfold rJoin_L4
    rw [if_pos (by omega), hw i hi, ixj (by omega), Option.bind_some, setx_at _ (by omega), Option.bind_some, wn1 _ (by omega)]
  rw [show (0 : Int) = ((0 : Nat) : Int) from rfl, step _ 0 _ (by omega) rfl, step _ 1 _ (by omega) (by simp), step _ 2 _ (by omega) (by simp), step _ 3 _ (by omega) (by simp)]
  unfold rJoin_L4
  rw [if_neg (by omega), Nat.add_zero]
  rw [set_four l p hp]; rfl

theorem four_loop (N k p : Nat) (l : List Int) (a b c d : Int) (hp : p + 4 ≤ l.length) (hl : l.length ≤ 900000000) : rJoin_L5 N (p : Int) [a, b, c, d] (k + 5) l 0 = some (setFour l p [a, b, c, d]) := by
  have hw : ∀ i : Nat, i < 4 → IntKind.i64.wrap ((p : Int) + (i : Int)) = ((p + i : Nat) : Int) := fun i hi => by rw [w64j (by omega) (by omega)]; simp
  have step : ∀ (k i : Nat) (m : List Int), i < 4 → m.length = l.length → rJoin_L5 N (p : Int) [a, b, c, d] (k + 1) m (i : Int) = rJoin_L5 N (p : Int) [a, b, c, d] k (m.set (p + i) ([a, b, c, d].getD i 0)) ((i + 1 : Nat) : Int) := fun k i m hi hm => by
    conv => lhs; unfold rJoin_L5
    rw [if_pos (by omega), ixj (l := [a, b, c, d]) (by simpa using hi), Option.bind_some, hw i hi, ixj (by omega), Option.bind_some, setx_at _ (by omega), Option.bind_some, wn1 _ (by omega)]
  rw [show (0 : Int) = ((0 : Nat) : Int) from rfl, step _ 0 _ (by omega) rfl, step _ 1 _ (by omega) (by simp), step _ 2 _ (by omega) (by simp), step _ 3 _ (by omega) (by simp)]
  unfold rJoin_L5
  rw [if_neg (by omega), Nat.add_zero]
  rw [← set_four l p hp]; rfl

def holeI : Option Nat → Int
  | none => -1
  | some p => (p : Int)

theorem apx_le {l m : List Int} (h : l.length + m.length ≤ 1000000000) : apx l m = some (l ++ m) := by unfold apx; rw [if_pos h]

theorem join_step (N k : Nat) (hN : 10 ≤ N) (p0 : List Tg) (p1 : List (List Int)) (hlen : p0.length = p1.length) (h1 : 1 ≤ p0.length) (h64 : p0.length ≤ 64) (hb0 : ∀ t ∈ p0, inB t) (hb1 : ∀ b ∈ p1, inBs b) (hsz : sizeJ p1 p1.length ≤ 1000000)
    (i : Nat) (hi : i < p0.length) (j : JoinS) (hj : joinL (p0.map tagL) p1 p0.length i = some j) :
    ∃ j1, joinL (p0.map tagL) p1 p0.length (i + 1) = some j1 ∧ rJoin_L2 N p0 p1 (k + 1) (j.place : Int) j.recs j.rest (holeI j.hole) (i : Int) = rJoin_L2 N p0 p1 k (j1.place : Int) j1.recs j1.rest (holeI j1.hole) ((i + 1 : Nat) : Int) := by
  have hf := joinL_facts (p0.map tagL) p1 (by simpa using hlen) (by simpa using h1) (by simpa using h64) (fun t ht => by obtain ⟨x, _, rfl⟩ := List.mem_map.1 ht; rfl) hsz
  simp only [List.length_map] at hf
  obtain ⟨j0, hj0, hr, hp, hre, hm⟩ := hf i (by omega)
  rw [hj] at hj0
  obtain rfl := Option.some.inj hj0
  obtain ⟨j1, hj1, _, hp1, _, _⟩ := hf (i + 1) (by omega)
  obtain ⟨jp, hjp, e1⟩ := joinL_next hj1
  rw [hj] at hjp
  obtain rfl := Option.some.inj hjp
  have hi1 : i < p1.length := by omega
  rw [mapL_getD hi, getD_at hi1] at e1
  have hle := sizeJ_le p1 (i + 1) (p1.length - (i + 1))
  rw [show i + 1 + (p1.length - (i + 1)) = p1.length by omega] at hle
  have hst : sizeJ p1 (i + 1) = sizeJ p1 i + upN (p1.getD i []).length := rfl
  rw [getD_at hi1] at hst
  have hup := upN_le p1[i].length
  refine ⟨j1, hj1, ?_⟩
  have hbl : p1[i].length ≤ 1000000 := by omega
  have hinB : inB p0[i] := hb0 _ (List.getElem_mem hi)
  have hinBs : inBs p1[i] := hb1 _ (List.getElem_mem hi1)
  have hIs : hIsHead N p0[i].1 p0[i].2.1 p0[i].2.2.1 p0[i].2.2.2 = some (decide (tagL p0[i] = headT)) := by unfold hIsHead; rw [if_pos hinB]
  have hTs : hTsum N p0[i].1 p0[i].2.1 p0[i].2.2.1 p0[i].2.2.2 p1[i] = some (sumTag (tagL p0[i]) p1[i]) := by unfold hTsum; rw [if_pos ⟨hinB, hinBs, hbl⟩]
  have hsb := sumTag_b (tagL p0[i]) p1[i]
  have hPt : hPut N [sumTag (tagL p0[i]) p1[i], (j.place : Int), ((p1[i].length : Nat) : Int)] ⟨#[73, 73, 73]⟩ = some ((putA [sumTag (tagL p0[i]) p1[i], (j.place : Int), ((p1[i].length : Nat) : Int)] ⟨#[73, 73, 73]⟩).2, (putA [sumTag (tagL p0[i]) p1[i], (j.place : Int), ((p1[i].length : Nat) : Int)] ⟨#[73, 73, 73]⟩).1) := by
    unfold hPut; rw [if_pos ⟨by simp, by decide⟩]
  have h12 : (putA [sumTag (tagL p0[i]) p1[i], (j.place : Int), ((p1[i].length : Nat) : Int)] ⟨#[73, 73, 73]⟩).2.length = 12 := put_three _ _ _ hsb (by omega) (by omega)
  have hA1 : apx j.recs [p0[i].1, p0[i].2.1, p0[i].2.2.1, p0[i].2.2.2] = some (j.recs ++ tagL p0[i]) := apx_le (by simp; omega)
  have hA2 : apx (j.recs ++ tagL p0[i]) (putA [sumTag (tagL p0[i]) p1[i], (j.place : Int), ((p1[i].length : Nat) : Int)] ⟨#[73, 73, 73]⟩).2 = some (j.recs ++ tagL p0[i] ++ (putA [sumTag (tagL p0[i]) p1[i], (j.place : Int), ((p1[i].length : Nat) : Int)] ⟨#[73, 73, 73]⟩).2) := apx_le (by simp [tagL_len]; omega)
  have hA3 : apx j.rest p1[i] = some (j.rest ++ p1[i]) := apx_le (by omega)
  have hA4 : rJoin_L3 N N (j.rest ++ p1[i]) = some (j.rest ++ p1[i] ++ List.replicate (upN p1[i].length - p1[i].length) 0) := fill_loop N _ N _ (by simp; omega) (by omega) (by omega) (by simp; omega)
  conv => lhs; unfold rJoin_L2
  rw [if_pos (by omega)]
  simp only [ixg_nat hi, ixg_nat hi1, Option.bind_some, hIs, hTs]
  rw [if_neg (show ¬ ((p1[i].length : Nat) : Int) > 16777216 by omega), if_neg (show ¬ (j.place : Int) > 16777216 by omega)]
  simp only [Option.bind_some, hA1, w64j (x := sumTag (tagL p0[i]) p1[i]) (by omega) (by omega), hPt, hA2, hA3, hA4, up_eq N p1[i].length (by omega), wn1 i (by omega)]
  rw [w64j (x := (j.place : Int) + ((upN p1[i].length : Nat) : Int)) (by omega) (by omega), w64j (x := (j.place : Int) + 8) (by omega) (by omega)]
  have hpl : (j1.place : Int) = (j.place : Int) + ((upN p1[i].length : Nat) : Int) := by rw [e1]; simp
  by_cases hh : tagL p0[i] = headT
  · by_cases h12 : 12 ≤ p1[i].length
    · simp only [decide_eq_true hh]
      rw [if_pos (show ((p1[i].length : Nat) : Int) ≥ 12 by omega)]
      simp only [Option.bind_some]
      rw [← hpl]
      have hho : holeI j1.hole = (j.place : Int) + 8 := by rw [e1]; simp only [if_pos (And.intro hh h12)]; rfl
      rw [hho, show j1.recs = _ from by rw [e1], show j1.rest = _ from by rw [e1]]
    · simp only [decide_eq_true hh]
      rw [if_neg (show ¬ ((p1[i].length : Nat) : Int) ≥ 12 by omega)]
      simp only [Option.bind_some]
      rw [← hpl]
      have hho : holeI j1.hole = holeI j.hole := by rw [e1]; simp only [if_neg (show ¬ (tagL p0[i] = headT ∧ 12 ≤ p1[i].length) from fun h => h12 h.2)]
      rw [hho, show j1.recs = _ from by rw [e1], show j1.rest = _ from by rw [e1]]
  · simp only [decide_eq_false hh, Option.bind_some]
    rw [← hpl]
    have hho : holeI j1.hole = holeI j.hole := by rw [e1]; simp only [if_neg (show ¬ (tagL p0[i] = headT ∧ 12 ≤ p1[i].length) from fun h => hh h.1)]
    rw [hho, show j1.recs = _ from by rw [e1], show j1.rest = _ from by rw [e1]]

theorem join_loop (N : Nat) (hN : 10 ≤ N) (p0 : List Tg) (p1 : List (List Int)) (hlen : p0.length = p1.length) (h1 : 1 ≤ p0.length) (h64 : p0.length ≤ 64) (hb0 : ∀ t ∈ p0, inB t) (hb1 : ∀ b ∈ p1, inBs b) (hsz : sizeJ p1 p1.length ≤ 1000000) :
    ∀ (k i : Nat) (j : JoinS), i ≤ p0.length → p0.length - i < k → joinL (p0.map tagL) p1 p0.length i = some j →
    ∃ j1, joinL (p0.map tagL) p1 p0.length p0.length = some j1 ∧ rJoin_L2 N p0 p1 k (j.place : Int) j.recs j.rest (holeI j.hole) (i : Int) = some (Ctl.go ((j1.place : Int), j1.recs, j1.rest, holeI j1.hole))
  | 0, _, _, _, h, _ => absurd h (Nat.not_lt_zero _)
  | k + 1, i, j, hi, hk, hj => by
    by_cases hn : i = p0.length
    · rw [hn] at hj
      refine ⟨j, hj, ?_⟩
      unfold rJoin_L2
      rw [if_neg (by omega)]
    · obtain ⟨j1, hj1, e⟩ := join_step N k hN p0 p1 hlen h1 h64 hb0 hb1 hsz i (by omega) j hj
      obtain ⟨j2, hj2, e2⟩ := join_loop N hN p0 p1 hlen h1 h64 hb0 hb1 hsz k (i + 1) j1 (by omega) (by omega) hj1
      exact ⟨j2, hj2, by rw [e, e2]⟩

theorem rJoin_eq (N : Nat) (hN : 100 ≤ N) (p0 : List Tg) (p1 : List (List Int)) (hb0 : ∀ t ∈ p0, inB t) (hb1 : ∀ b ∈ p1, inBs b) (hsz : sizeJ p1 p1.length ≤ 1000000) : rJoin N p0 p1 = some (joinS (p0.map tagL) p1) := by
  unfold rJoin joinS
  simp only [List.length_map]
  by_cases c1 : p0.length = p1.length
  · rw [if_neg (by omega)]
    by_cases c2 : p0.length < 1
    · rw [if_pos (by omega), Option.bind_some, if_pos (by omega)]
    · rw [if_neg (by omega)]
      by_cases c3 : 64 < p0.length
      · rw [if_pos (by omega), Option.bind_some, if_pos (by omega)]
      · rw [if_neg (by omega), Option.bind_some, if_neg (by omega)]
        have hH : hHead N ((p0.length : Nat) : Int) = some (headL p0.length) := by unfold hHead; rw [if_pos (by omega)]; rfl
        rw [hH]
        simp only [Option.bind_some]
        have hO := ord_loop N p0 (by omega) N 0 (by omega) (by omega) rfl
        rw [show ((0 : Nat) : Int) = 0 from rfl] at hO
        rw [hO]
        by_cases ho : inOrder (p0.map tagL) p0.length = true
        · rw [if_pos ho, Option.bind_some, if_neg (by rw [ho]; simp)]
          obtain ⟨j, hj, hL⟩ := join_loop N (by omega) p0 p1 c1 (by omega) (by omega) hb0 hb1 hsz N 0 ⟨headL p0.length, [], 12 + 16 * p0.length, none⟩ (by omega) (by omega) rfl
          have hw : IntKind.i64.wrap ((12 : Int) + IntKind.i64.wrap ((16 : Int) * ((p0.length : Nat) : Int))) = ((12 + 16 * p0.length : Nat) : Int) := by rw [w64j (x := (16 : Int) * ((p0.length : Nat) : Int)) (by omega) (by omega), w64j (by omega) (by omega)]; simp
          have hL' : rJoin_L2 N p0 p1 N (IntKind.i64.wrap ((12 : Int) + IntKind.i64.wrap ((16 : Int) * ((p0.length : Nat) : Int)))) (headL p0.length) [] (-1) 0 = some (Ctl.go ((j.place : Int), j.recs, j.rest, holeI j.hole)) := by rw [hw]; exact hL
          rw [hL', hj]
          simp only [Option.bind_some]
          have hf := joinL_facts (p0.map tagL) p1 (by simpa using c1) (by simp; omega) (by simp; omega) (fun t ht => by obtain ⟨x, _, rfl⟩ := List.mem_map.1 ht; rfl) hsz
          simp only [List.length_map] at hf
          obtain ⟨j0, hj0, hr, hp, hre, hm⟩ := hf p0.length (by omega)
          rw [hj] at hj0
          obtain rfl := Option.some.inj hj0
          have hle : sizeJ p1 p0.length ≤ 1000000 := by rw [c1]; exact hsz
          have hJ : JoinOf (p0.map tagL) p1 := ⟨by simpa using c1, by simp; omega, by simp; omega, (fun t ht => by obtain ⟨x, _, rfl⟩ := List.mem_map.1 ht; rfl), (fun t ht => by obtain ⟨x, hx, rfl⟩ := List.mem_map.1 ht; exact tagL_b (hb0 x hx)), hb1, by simpa using ho, hsz⟩
          have hAB := joinLR_b (p0.map tagL) p1 hJ p0.length j (by simp) (by simpa using hj)
          rw [if_neg (by omega), if_neg (by omega), apx_le (by omega)]
          simp only [Option.bind_some]
          cases hho : j.hole with
          | none =>
            rw [if_neg (by simp [holeI])]
            simp only [Option.bind_some]
            unfold joinEnd
            rw [hho]
          | some q =>
            obtain ⟨kk, hkk, _, hbk, hq⟩ := (joinL_hole (p0.map tagL) p1 hJ p0.length j (by simp) (by simpa using hj)).1 q hho
            have hin := sizeJ_in p1 (show kk < p1.length by omega)
            have hlw : (j.recs ++ j.rest).length = j.place := by simp; omega
            have hqw : q + 4 ≤ (j.recs ++ j.rest).length := by rw [hlw, hp, c1]; omega
            have hlw2 : (j.recs ++ j.rest).length ≤ 1000000 := by rw [hlw]; omega
            obtain ⟨N', rfl⟩ : ∃ N', N = N' + 5 := ⟨N - 5, by omega⟩
            rw [if_pos (by simp [holeI]), show holeI (some q) = (q : Int) from rfl, zero_loop (N' + 5) N' q _ hqw (by omega)]
            simp only [Option.bind_some]
            have hz : inBs (setFour (j.recs ++ j.rest) q [0, 0, 0, 0]) := by
              rw [four_eq _ _ _ rfl]
              intro x hx
              have hall : ∀ y ∈ j.recs ++ j.rest, 0 ≤ y ∧ y ≤ 255 := fun y hy => (List.mem_append.1 hy).elim (hAB.1 y) (hAB.2 y)
              rcases List.mem_append.1 hx with hx | hx
              · exact hall x (List.mem_of_mem_take hx)
              · rcases List.mem_append.1 hx with hx | hx
                · simp at hx; omega
                · exact hall x (List.mem_of_mem_drop hx)
            have hS : hSum (N' + 5) (setFour (j.recs ++ j.rest) q [0, 0, 0, 0]) = some (sumS (setFour (j.recs ++ j.rest) q [0, 0, 0, 0])) := by unfold hSum; rw [if_pos ⟨hz, by rw [four_len _ _ _ hqw rfl]; omega⟩]
            rw [hS]
            simp only [Option.bind_some]
            have hw2 : IntKind.i64.wrap (IntKind.u32.wrap ((2981146554 : Int) - sumS (setFour (j.recs ++ j.rest) q [0, 0, 0, 0]))) = (2981146554 - sumS (setFour (j.recs ++ j.rest) q [0, 0, 0, 0])) % 4294967296 := by
              rw [IntKind.wrap_u32, w64j (by omega) (by omega)]
            rw [hw2]
            unfold joinEnd
            rw [hho]
            simp only
            generalize (2981146554 - sumS (setFour (j.recs ++ j.rest) q [0, 0, 0, 0])) % 4294967296 = X at *
            have hX : 0 ≤ X ∧ X ≤ 4294967295 := by
              rw [← hw2, IntKind.wrap_u32, w64j (by omega) (by omega)]; omega
            have hPt : hPut (N' + 5) [X] ⟨#[73]⟩ = some ((putA [X] ⟨#[73]⟩).2, (putA [X] ⟨#[73]⟩).1) := by unfold hPut; rw [if_pos ⟨by simp, by decide⟩]
            rw [hPt]
            simp only [Option.bind_some]
            rw [put1_eq X hX, low4]
            rw [four_loop (N' + 5) N' q _ _ _ _ _ (by rw [four_len _ _ _ hqw rfl]; exact hqw) (by rw [four_len _ _ _ hqw rfl]; omega), Option.bind_some]
            rw [four_four _ _ _ _ hqw rfl rfl]
        · rw [if_neg ho, Option.bind_some, if_pos (by simpa using ho)]
  · rw [if_pos (by omega), Option.bind_some, if_pos (by omega)]
end Go.Proofs.Ytijmponhkabeiaa

namespace Go.Proofs.Ytijmponhkabeiaa
open Go Go.RowKit
set_option linter.unusedVariables false

theorem count_loop (N : Nat) (p1 : List (List Int)) (hb : ∀ b ∈ p1, b.length ≤ 140737488355328) : ∀ k i s : Nat, i ≤ p1.length → i ≤ 71 → 71 - i < k → s = sumLen p1 i → s ≤ 140737488360328 →
    ∃ s' : Nat, fJoins_L1 N p1 k (s : Int) (i : Int) = some (s' : Int) ∧ (p1.length ≤ 70 → s' ≤ 5000 → s' = sumLen p1 p1.length)
  | 0, _, _, _, _, h, _, _ => absurd h (Nat.not_lt_zero _)
  | k + 1, i, s, hi, h71, hk, hs, hm => by
    unfold fJoins_L1
    by_cases c1 : i < p1.length
    · rw [if_pos (by omega)]
      by_cases c2 : i ≤ 70
      · rw [if_pos (by omega)]
        by_cases c3 : s ≤ 5000
        · rw [if_pos (by omega), ixg_nat c1, Option.bind_some, wn1 i (by omega)]
          have hbl := hb _ (List.getElem_mem c1)
          rw [w64j (x := (s : Int) + ((p1[i].length : Nat) : Int)) (by omega) (by omega), show (s : Int) + ((p1[i].length : Nat) : Int) = ((s + p1[i].length : Nat) : Int) by simp]
          exact count_loop N p1 hb k (i + 1) (s + p1[i].length) (by omega) (by omega) (by omega) (by rw [hs]; show _ = sumLen p1 i + (p1.getD i []).length; rw [getD_at c1]) (by omega)
        · rw [if_neg (by omega)]
          exact ⟨s, rfl, fun _ h => absurd h c3⟩
      · rw [if_neg (by omega)]
        exact ⟨s, rfl, fun h _ => by omega⟩
    · rw [if_neg (by omega)]
      exact ⟨s, rfl, fun _ _ => by rw [hs, show i = p1.length by omega]⟩

section
variable {ts : List Tg} {bs : List (List Int)} {E : List Int}

theorem keep_loop (N : Nat) (h : Joined (ts.map tagL) bs E) (hb : ∀ t ∈ ts, inB t) (i : Nat) (hi : i < ts.length) (hbi : i < bs.length) :
    ∀ k m : Nat, m ≤ bs[i].length → bs[i].length - m < k → fJoins_L3 N bs E (i : Int) (ts[i], ((sizeJ bs i : Nat) : Int), ((bs[i].length : Nat) : Int)) k (m : Int) = some (Ctl.go ())
  | 0, _, _, h => absurd h (Nat.not_lt_zero _)
  | k + 1, m, hm, hk => by
    unfold fJoins_L3
    simp only
    by_cases c : m < bs[i].length
    · rw [if_pos (by omega)]
      have hf := (h.fits i (by simpa using hi)).1
      have hw := h.whole.2
      rw [getD_at hbi] at hf
      have hq : IntKind.i64.wrap (((sizeJ bs i : Nat) : Int) + (m : Int)) = ((sizeJ bs i + m : Nat) : Int) := by rw [w64j (by omega) (by omega)]; simp
      rw [hq, ixj (show sizeJ bs i + m < E.length by omega), Option.bind_some, ixg_nat hbi, Option.bind_some, ixj c, Option.bind_some, wn1 m (by omega)]
      by_cases e : E.getD (sizeJ bs i + m) 0 = bs[i].getD m 0
      · rw [if_neg (fun hne => hne e)]
        exact keep_loop N h hb i hi hbi k (m + 1) (by omega) (by omega)
      · rw [if_pos e]
        have hk2 := h.keeps i m (by simpa using hi) (by rw [getD_at hbi]; exact c)
        rw [mapL_getD hi, getD_at hbi] at hk2
        rcases hk2 with hk2 | ⟨h1, h2, h3, h4⟩
        · exact absurd hk2 e
        · have he : eqTag (ts[i].1, ts[i].2.1, ts[i].2.2.1, ts[i].2.2.2) (104, 101, 97, 100) = some true := by
            unfold eqTag
            rw [if_pos ⟨hb _ (List.getElem_mem hi), by decide⟩]
            congr 1
            exact decide_eq_true h1
          rw [he, Option.bind_some]
          simp only
          rw [if_pos (by omega), if_pos (by omega), if_pos (by omega)]
          exact keep_loop N h hb i hi hbi k (m + 1) (by omega) (by omega)
    · rw [if_neg (by omega)]

theorem tabs_loop (N : Nat) (h : Joined (ts.map tagL) bs E) (hb : ∀ t ∈ ts, inB t) (hN : ∀ b ∈ bs, b.length < N) (T : List (Tg × Int × Int)) (hT : T.length = ts.length) (hTx : ∀ (i : Nat) (hi : i < ts.length) (hbi : i < bs.length), T[i]? = some (ts[i], ((sizeJ bs i : Nat) : Int), ((bs[i].length : Nat) : Int))) :
    ∀ k i : Nat, i ≤ ts.length → ts.length - i < k → fJoins_L2 N ts bs E T k (i : Int) = some (Ctl.go ())
  | 0, _, _, h => absurd h (Nat.not_lt_zero _)
  | k + 1, i, hi, hk => by
    unfold fJoins_L2
    by_cases c : i < ts.length
    · rw [if_pos (by omega)]
      have hlb : ts.length = bs.length := by have := h.same.1; simpa using this
      have h64 : ts.length ≤ 64 := by have := h.same.2; simpa using this
      have hbi : i < bs.length := by omega
      have hf := (h.fits i (by simpa using c)).1
      have hw := h.whole.2
      rw [getD_at hbi] at hf
      have hx : ixg T (i : Int) = some (ts[i], ((sizeJ bs i : Nat) : Int), ((bs[i].length : Nat) : Int)) := by
        unfold ixg; rw [if_pos (by omega), Int.toNat_natCast]; exact hTx i c hbi
      have hne : neTag (ts[i].1, ts[i].2.1, ts[i].2.2.1, ts[i].2.2.2) (ts[i].1, ts[i].2.1, ts[i].2.2.1, ts[i].2.2.2) = some false := by
        unfold neTag eqTag
        rw [if_pos ⟨hb _ (List.getElem_mem c), hb _ (List.getElem_mem c)⟩]
        simp
      rw [hx, ixg_nat c, ixg_nat hbi]
      simp only [Option.bind_some, hne]
      rw [if_neg (by omega), if_neg (fun e => e rfl), w64j (x := ((E.length : Nat) : Int) - ((bs[i].length : Nat) : Int)) (by omega) (by omega), if_neg (by omega)]
      simp only [Option.bind_some]
      have hkl := keep_loop N h hb i c hbi N 0 (Nat.zero_le _) (by have := hN _ (List.getElem_mem hbi); omega)
      rw [show ((0 : Nat) : Int) = 0 from rfl] at hkl
      rw [hkl, Option.bind_some, wn1 i (by omega)]
      exact tabs_loop N h hb hN T hT hTx k (i + 1) (by omega) (by omega)
    · rw [if_neg (by omega)]
end

theorem kBytes_self (N : Nat) (l : List Int) : kBytes N l l = some true := by unfold kBytes; simp

theorem fJoins_true (p0 : List Tg) (p1 : List (List Int)) (hb0 : ∀ t ∈ p0, inB t) (hb1 : ∀ b ∈ p1, inBs b) (hsz : ∀ b ∈ p1, b.length ≤ 140737488355328) : ∃ N, fJoins N p0 p1 = some true := by
  refine ⟨2000000, ?_⟩
  unfold fJoins
  obtain ⟨s, h1, h2⟩ := count_loop 2000000 p1 hsz 2000000 0 0 (Nat.zero_le _) (by omega) (by omega) rfl (by omega)
  have h1' : fJoins_L1 2000000 p1 2000000 0 0 = some (s : Int) := h1
  rw [h1', Option.bind_some]
  by_cases c1 : 70 < p0.length
  · rw [if_pos (by omega)]; rfl
  rw [if_neg (by omega)]
  by_cases c2 : 70 < p1.length
  · rw [if_pos (by omega)]; rfl
  rw [if_neg (by omega)]
  by_cases c3 : 5000 < s
  · rw [if_pos (by omega)]; rfl
  rw [if_neg (by omega), Option.bind_some]
  have hs := h2 (by omega) (by omega)
  have hJ : sizeJ p1 p1.length ≤ 1000000 := by have := sizeJ_sum p1 p1.length; omega
  have hS : sJoin 2000000 p0 p1 = some (joinS (p0.map tagL) p1) := by unfold sJoin; rw [if_pos ⟨hb0, hb1, hJ, by omega⟩]
  rw [hS, Option.bind_some, rJoin_eq 2000000 (by omega) p0 p1 hb0 hb1 hJ]
  have hjf := joined_facts (p0.map tagL) p1 (fun t ht => by obtain ⟨x, hx, rfl⟩ := List.mem_map.1 ht; exact ⟨rfl, tagL_b (hb0 x hx)⟩) hb1 hJ
  obtain ⟨q, hq⟩ : ∃ q, q = joinS (p0.map tagL) p1 := ⟨_, rfl⟩
  rw [← hq] at hjf ⊢
  obtain ⟨E, e⟩ := q
  simp only [Option.bind_some, kBytes_self]
  rw [if_neg (fun h => h rfl)]
  simp only [Option.bind_some]
  by_cases ce : e = 0
  · subst ce
    have hJd : Joined (p0.map tagL) p1 E := hjf rfl
    have hlb : p0.length = p1.length := by have := hJd.same.1; simpa using this
    rw [if_neg (fun h => h rfl)]
    have htb := hJd.tabs
    simp only [List.length_map] at htb
    have hT : sTables 2000000 E = some (((List.range p0.length).map (fun i => ((p0.map tagL).getD i [], ((sizeJ p1 i : Nat) : Int), ((p1.getD i []).length : Int)))).map tabD, 0) := by
      have h4 : ∀ t ∈ (tablesS E).1, t.1.length = 4 := by
        rw [htb]
        intro t ht
        obtain ⟨i, hi, rfl⟩ := List.mem_map.1 ht
        show ((p0.map tagL).getD i []).length = 4
        rw [mapL_getD (List.mem_range.1 hi)]; exact tagL_len _
      unfold sTables
      rw [if_pos ⟨hJd.bytes, hJd.whole.2, h4⟩, htb]
    rw [hT]
    simp only [Option.bind_some]
    rw [if_neg (fun h => h rfl), if_neg (by simp), Option.bind_some]
    simp only
    have hl : fJoins_L2 2000000 p0 p1 E (((List.range p0.length).map (fun i => ((p0.map tagL).getD i [], ((sizeJ p1 i : Nat) : Int), ((p1.getD i []).length : Int)))).map tabD) 2000000 ((0 : Nat) : Int) = some (Ctl.go ()) := by
      refine tabs_loop 2000000 hJd hb0 (fun b hb => ?_) _ (by simp) (fun i hi hbi => ?_) 2000000 0 (Nat.zero_le _) (by omega)
      · obtain ⟨i, hi, rfl⟩ := List.mem_iff_getElem.1 hb
        have := sizeJ_in p1 (show i < p1.length from hi)
        rw [getD_at hi] at this
        omega
      · rw [List.getElem?_map, List.getElem?_map, List.getElem?_range hi]
        show some (tabD ((p0.map tagL).getD i [], _, _)) = _
        rw [mapL_getD hi, getD_at hbi]
        rfl
    have hl' : fJoins_L2 2000000 p0 p1 E (((List.range p0.length).map (fun i => ((p0.map tagL).getD i [], ((sizeJ p1 i : Nat) : Int), ((p1.getD i []).length : Int)))).map tabD) 2000000 0 = some (Ctl.go ()) := hl
    rw [hl', Option.bind_some]
    rfl
  · rw [if_pos ce]
    rfl

theorem joins_calls (w0 : World) (p0 : List Tg) (p1 : List (List Int)) (hb0 : ∀ t ∈ p0, inB t) (hb1 : ∀ b ∈ p1, inBs b) (hsz : ∀ b ∈ p1, b.length ≤ 140737488355328) (A0 : Option Addr) (c0 : Nat) (vs0 : List Value) (ft0 : List Nat) (A1 : Option Addr) (c1 : Nat) (vs1 : List Value) (ft1 : List Nat)
    (hv0 : (fSl encapiTag A0 c0 vs0 p0).rd w0 ft0) (ho0 : Off [] w0 ft0) (hv1 : (fSl (rowOf (intE .u8)) A1 c1 vs1 p1).rd w0 ft1) (ho1 : Off [] w0 ft1) :
    Calls Try.prog 4 #[.slice A0 p0.length c0, .slice A1 p1.length c1] w0 fun e w => e = .returned (.bool true) ∧ Below w0.heap.size w0 w := by
  obtain ⟨N, hN⟩ := fJoins_true p0 p1 hb0 hb1 hsz
  refine (fJoins_ok N p0 p1 A0 c0 vs0 ft0 A1 c1 vs1 ft1 true hN w0 hv0 ho0 hv1 ho1).mono ?_
  rintro e w ⟨v, rfl, rfl, hS⟩
  exact ⟨rfl, hS.below⟩
end Go.Proofs.Ytijmponhkabeiaa

namespace Go.Proofs.Ytijmponhkabeiaa
open Go Go.ChangeShapes Go.WideShapes Go.ChangeAt Go.RowKit
set_option linter.unusedVariables false

theorem tags_nn {H : Type} {enc : TypeId × Value → H} {W : World} {a0 : Option Addr} {len0 cap0 : Nat} {d : DataW H} {ps : List MemPlace} (h0 : DataW.Trod enc Try.prog W 0 (fun _ => true) true 34 (.slice a0 len0 cap0) d ps) : a0 = none → cap0 = 0 := by
  obtain ⟨fuel, hf⟩ := h0
  rintro rfl
  rcases Deep.open_slice Try.underlying34 hf with ⟨hcs, _⟩ | ⟨a, len, cap, m, n, D, Pl, hcs, _⟩
  · simp [Value.cells] at hcs; exact hcs.2
  · simp [Value.cells] at hcs

theorem bods_nn {H : Type} {enc : TypeId × Value → H} {W : World} {a0 : Option Addr} {len0 cap0 : Nat} {d : DataW H} {ps : List MemPlace} (h0 : DataW.Trod enc Try.prog W 0 (fun _ => true) true 35 (.slice a0 len0 cap0) d ps) : a0 = none → cap0 = 0 := by
  obtain ⟨fuel, hf⟩ := h0
  rintro rfl
  rcases Deep.open_slice Try.underlying35 hf with ⟨hcs, _⟩ | ⟨a, len, cap, m, n, D, Pl, hcs, _⟩
  · simp [Value.cells] at hcs; exact hcs.2
  · simp [Value.cells] at hcs

def tgOf (t : List Int) : Tg := (t.getD 0 0, t.getD 1 0, t.getD 2 0, t.getD 3 0)

theorem tags_gx {W : World} {A : Option Addr} {n c : Nat} {ts : List (List Int)} (h : TagsZ W (.slice A n c) ts) (hn : A = none → c = 0) :
    ∃ (tags : List Tg) (vs : List Value), n = tags.length ∧ (∀ t ∈ tags, inB t) ∧ (fSl encapiTag A c vs tags).rd W (List.range W.heap.size) := by
  obtain ⟨A', c', e, h1, h2, h3, h4⟩ := h
  injection e with e1 e2 e3
  subst e1; subst e2; subst e3
  refine ⟨ts.map tgOf, (ts.map tgOf).flatMap tagC, by simp, fun t ht => ?_, by simpa using h1, h2, hn, each_tags.2 rfl, fun hne => ?_, fun p hp hne => ?_⟩
  · obtain ⟨x, hx, rfl⟩ := List.mem_map.1 ht
    obtain ⟨l4, hB⟩ := h3 x hx
    match x, l4, hB with
    | [a, b, c, d], _, hB => exact ⟨hB a (by simp), hB b (by simp), hB c (by simp), hB d (by simp)⟩
  all_goals
    have hne' : ts ≠ [] := fun h => hne (by rw [h]; rfl)
    obtain ⟨g, off, hA, hg, hc⟩ := h4 hne'
  · refine ⟨g, off, hA, fun j hj => ?_⟩
    have hlen := tags_flen (ts.map tgOf)
    rw [List.length_map] at hlen
    have hi : j / 4 < ts.length := by omega
    have hq := tags_get (ts.map tgOf) (j / 4) (j % 4) (by simpa using hi) (by omega)
    rw [show j / 4 * 4 + j % 4 = j by omega, List.getElem?_eq_getElem hj] at hq
    have hcc := hc (j / 4) (j % 4) hi (by omega)
    rw [show off + j / 4 * 4 + j % 4 = off + j by omega] at hcc
    rw [hcc, Option.some.inj hq]
    obtain ⟨l4, _⟩ := h3 _ (List.getElem_mem hi)
    congr 2
    rw [List.getElem_map]
    obtain ⟨x, hx⟩ : ∃ x, x = ts[j / 4] := ⟨_, rfl⟩
    rw [← hx] at l4 ⊢
    have h4j : j % 4 < 4 := by omega
    match x, l4 with
    | [a, b, c, d], _ =>
      obtain ⟨r, hr⟩ : ∃ r, r = j % 4 := ⟨_, rfl⟩
      rw [← hr] at h4j ⊢
      match r, h4j with
      | 0, _ => rfl
      | 1, _ => rfl
      | 2, _ => rfl
      | 3, _ => rfl
  · rw [hA] at hp
    rw [← Option.some.inj hp]
    exact List.mem_range.2 hg

theorem each_of {α : Type} {e : Enc α} {w : World} {ft : List Nat} : ∀ {vs : List Value} {xs : List α}, vs.length = xs.length → (∀ (i : Nat) (h : i < xs.length) (h' : i < vs.length), e.rd w ft [vs[i]] xs[i]) → Each e w ft vs xs
  | [], [], _, _ => rfl
  | v :: vs, x :: xs, hl, h => ⟨[v], vs, rfl, h 0 (by simp) (by simp), each_of (by simpa using hl) fun i h1 h2 => h (i + 1) (by simpa using h1) (by simpa using h2)⟩
  | [], _ :: _, hl, _ => by simp at hl
  | _ :: _, [], hl, _ => by simp at hl

theorem bods_gx {W : World} {A : Option Addr} {n c : Nat} {bs : List (List Int)} (h : BodsZ W (.slice A n c) bs) (hn : A = none → c = 0) :
    ∃ (vs : List Value), n = bs.length ∧ (∀ b ∈ bs, inBs b) ∧ (fSl (rowOf (intE .u8)) A c vs bs).rd W (List.range W.heap.size) := by
  obtain ⟨A', c', e, h1, h2, h3, h4⟩ := h
  injection e with e1 e2 e3
  subst e1; subst e2; subst e3
  by_cases hne : bs = []
  · subst hne
    exact ⟨[], rfl, h3, h1, h2, hn, rfl, fun h => absurd rfl h, fun _ _ h => absurd rfl h⟩
  obtain ⟨g, off, hA, hg, hc⟩ := h4 hne
  have hcell : ∀ (i : Nat) (hi : i < ((List.range bs.length).map fun i => (W.cell? ⟨g, off + i, none⟩).getD .nilIface).length), W.cell? ⟨g, off + i, none⟩ = some ((List.range bs.length).map fun i => (W.cell? ⟨g, off + i, none⟩).getD .nilIface)[i] := fun i hi => by
    obtain ⟨vb, h5, _⟩ := hc i (by simpa using hi)
    simp [h5]
  refine ⟨(List.range bs.length).map fun i => (W.cell? ⟨g, off + i, none⟩).getD .nilIface, rfl, h3, h1, h2, hn, each_of (by simp) fun i hi hi' => ?_, fun _ => ⟨g, off, hA, hcell⟩, fun p hp _ => ?_⟩
  · obtain ⟨vb, h5, h6, h7⟩ := hc i hi
    have h8 := hcell i hi'
    rw [h5] at h8
    rw [← Option.some.inj h8]
    obtain ⟨A2, c2, rfl, h9, h10, h11⟩ := h6
    refine ⟨A2, c2, bs[i].map (Value.int .u8), rfl, h9, h10, fun e => (h7 _ _ (by rw [e])).2, each_ints.2 rfl, fun hne2 => ?_, fun p hp hne2 => ?_⟩
    · obtain ⟨g2, off2, hA2, hg2, hc2⟩ := h11 (fun h => hne2 (by rw [h]; rfl))
      exact ⟨g2, off2, hA2, fun j hj => by rw [hc2 j (by simpa using hj)]; simp⟩
    · obtain ⟨g2, off2, hA2, hg2, hc2⟩ := h11 (fun h => hne2 (by rw [h]; rfl))
      rw [hA2] at hp
      rw [← Option.some.inj hp]
      exact List.mem_range.2 hg2
  · rw [hA] at hp
    rw [← Option.some.inj hp]
    exact List.mem_range.2 hg

theorem off_range (W : World) : Off [] W (List.range W.heap.size) := fun k hk => ⟨List.mem_range.1 hk, by simp⟩
end Go.Proofs.Ytijmponhkabeiaa
