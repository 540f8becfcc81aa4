/-
  EmbedSequences: any row and any levels.
-/
import Derived.Test.YtjndolnjhbgflaaH5
import Derived.Test.YtjndolnjhbgflaaF1
import Derived.Test.YtjndolnjhbgflaaFSequences
namespace Go.Proofs.Ytjndolnjhbgflaa
open Go Go.RowKit
set_option linter.unusedVariables false
set_option linter.unusedSectionVars false
set_option linter.unusedSimpArgs false

theorem walk_le {sc : Nat → Option Nat} (hs : ∀ k j, sc k = some j → k < j) {B : Nat} : ∀ k, k < B → (walk sc B k).length ≤ B - k := by
  refine back (sc := sc) hs fun k hk ih => ?_
  cases h : sc k with
  | none => rw [walk_none hs hk (fun j e => by rw [h] at e; cases e)]; show 1 ≤ _; omega
  | some j =>
    by_cases hj : j < B
    · have := ih j (hs _ _ h) hj
      have := hs _ _ h
      rw [walk_some hs hj h, List.length_cons]; omega
    · rw [walk_none hs hk (fun j' e => by rw [h] at e; injection e; omega)]; show 1 ≤ _; omega
theorem hd_le (sc : Nat → Option Nat) (B : Nat) : (hd sc B).length ≤ B := by
  unfold hd
  exact Nat.le_trans (List.length_filter_le ..) (by rw [List.length_range]; exact Nat.le_refl _)
theorem seqsS_len (l n : List Int) (b : Int) : (seqsS l n b).length ≤ l.length := by
  unfold seqsS
  rw [List.length_map]
  exact Nat.le_trans (hd_le ..) (plc_le l)
theorem seqsS_row (l n : List Int) (b : Int) : ∀ x ∈ seqsS l n b, x.1.length ≤ l.length := by
  intro x hx
  obtain ⟨h, hh, rfl⟩ := List.mem_map.1 hx
  have := walk_le (sc := scI l n b) sc_s h (hd_mem.1 hh).1
  have := plc_le l
  show (List.map _ _).length ≤ _
  rw [List.length_map]
  omega
theorem seqsR_row (l n : List Int) (b : Int) : (seqsR l n b).1.length ≤ l.length ∧ ∀ x ∈ (seqsR l n b).1, x.1.length ≤ l.length := by
  unfold seqsR
  by_cases h1 : l.length > 65536
  · rw [if_pos h1]; exact ⟨Nat.zero_le _, fun x hx => by cases hx⟩
  rw [if_neg h1]
  by_cases h2 : l.length ≠ n.length
  · rw [if_pos h2]; exact ⟨Nat.zero_le _, fun x hx => by cases hx⟩
  rw [if_neg h2]
  exact ⟨seqsS_len l n b, fun x hx => seqsS_row l n b x hx⟩

theorem kPl_loop (N : Nat) (p : List Int) (hp : p.length ≤ 400000000) : ∀ (k i : Nat), p.length - i < k → i ≤ p.length → kPlaces_L1 N p p k (i : Int) = some (Ctl.go ())
  | 0, _, h, _ => absurd h (Nat.not_lt_zero _)
  | k + 1, i, hk, hi => by
    unfold kPlaces_L1
    by_cases h : i < p.length
    · rw [if_pos (by omega), ixe h, Option.bind_some, Option.bind_some, if_neg (by simp), wne i (by omega)]
      exact kPl_loop N p hp k (i + 1) (by omega) (by omega)
    · rw [if_neg (by omega)]
theorem kPl_eq (N : Nat) (p : List Int) (hp : p.length ≤ 400000000) (hN : p.length < N) : kPlaces N p p = some true := by
  unfold kPlaces
  have := kPl_loop N p hp N 0 (by omega) (Nat.zero_le _)
  have this' : kPlaces_L1 N p p N 0 = some (Ctl.go ()) := this
  rw [if_neg (by simp), this']
  rfl
theorem kAl_loop (N : Nat) (p : List (List Int × Int × Int × Int)) (hp : p.length ≤ 400000000) (hN : ∀ x ∈ p, x.1.length ≤ 400000000 ∧ x.1.length < N) : ∀ (k i : Nat), p.length - i < k → i ≤ p.length → kAlike_L1 N p p k (i : Int) = some (Ctl.go ())
  | 0, _, h, _ => absurd h (Nat.not_lt_zero _)
  | k + 1, i, hk, hi => by
    unfold kAlike_L1
    by_cases h : i < p.length
    · obtain ⟨h1, h2⟩ := hN _ (List.getElem_mem h)
      rw [if_pos (by omega), ixge, List.getElem?_eq_getElem h, Option.bind_some, Option.bind_some, kPl_eq N _ h1 h2, Option.bind_some]
      simp only [Option.bind_some, ne_eq, not_true_eq_false, if_false, if_true]
      rw [wne i (by omega)]
      exact kAl_loop N p hp hN k (i + 1) (by omega) (by omega)
    · rw [if_neg (by omega)]
theorem kAl_eq (N : Nat) (p : List (List Int × Int × Int × Int)) (hp : p.length ≤ 400000000) (hN : ∀ x ∈ p, x.1.length ≤ 400000000 ∧ x.1.length < N) (hl : p.length < N) : kAlike N p p = some true := by
  unfold kAlike
  have := kAl_loop N p hp hN N 0 (by omega) (Nat.zero_le _)
  have this' : kAlike_L1 N p p N 0 = some (Ctl.go ()) := this
  rw [if_neg (by simp), this']
  rfl

theorem kIso_eq (N : Nat) (hN : 100 < N) : kIso N = some true := by
  unfold kIso
  rw [pSeqs_eq (N := N) [1, 21, 2, 23, 1] [0, 0, 1, 0, 0] 0 (by decide) (by show 5 + 3 < N; omega) (by decide) (by decide)]
  rw [show seqsR [1, 21, 2, 23, 1] [0, 0, 1, 0, 0] 0 = ([([0, 1, 3, 4], 0, 1, 1), ([2], 1, 2, 2)], 0) by decide +kernel]
  simp only [Option.bind_some]
  have h : kPlaces N [0, 1, 3, 4] [0, 1, 3, 4] = some true := kPl_eq N _ (by decide) (by show 4 < N; omega)
  show ((ixg [(([0, 1, 3, 4] : List Int), (0 : Int), (1 : Int), (1 : Int)), ([2], 1, 2, 2)] ((0 : Nat) : Int)).bind _).bind _ = _
  rw [ixge]
  show (((kPlaces N [0, 1, 3, 4] [0, 1, 3, 4]).bind _).bind _) = _
  rw [h]
  rfl

/-- every row as long as it was -/
def SameL (a c : List (List Int × Int × Int × Int)) : Prop := a.map (fun x => x.1.length) = c.map (fun x => x.1.length)

theorem seq_L3 (N M : Nat) (hM : M ≤ 400000000) : ∀ (k i : Nat) (x : Nat) (l : List (List Int × Int × Int × Int)) (h : x < l.length), l[x].1.length ≤ M → M - i < k → i ≤ M →
    ∃ l', fSequences_L3 N (x : Int) k (i : Int) l = some l' ∧ SameL l' l
  | 0, _, _, _, _, _, h, _ => absurd h (Nat.not_lt_zero _)
  | k + 1, i, x, l, hx, hm, hk, hi => by
    unfold fSequences_L3
    rw [ixge, List.getElem?_eq_getElem hx, Option.bind_some]
    by_cases h : i < l[x].1.length
    · rw [if_pos (by omega), ixe h, Option.bind_some, setxe _ h, Option.bind_some, setge _ _ _ hx, Option.bind_some, wne i (by omega)]
      obtain ⟨l', e, s⟩ := seq_L3 N M hM k (i + 1) x (l.set x (l[x].1.set i 0, l[x].2.1, l[x].2.2.1, l[x].2.2.2)) (by simpa using hx) (by rw [List.getElem_set_self, List.length_set]; exact hm) (by omega) (by omega)
      refine ⟨l', e, s.trans ?_⟩
      apply List.ext_getElem?
      intro j
      rw [List.getElem?_map, List.getElem?_map]
      by_cases hj : x = j
      · subst hj
        rw [List.getElem?_set_self hx, List.getElem?_eq_getElem hx]
        simp
      · rw [List.getElem?_set_ne hj]
    · rw [if_neg (by omega)]
      exact ⟨l, rfl, rfl⟩
theorem seq_L2 (N M : Nat) (hM : M ≤ 400000000) (hN : M < N) (c : List (List Int × Int × Int × Int)) (hc : c.length ≤ 400000000) (hr : ∀ x ∈ c, x.1.length ≤ M) : ∀ (k i : Nat) (l : List (List Int × Int × Int × Int)), SameL l c → c.length - i < k → i ≤ c.length →
    fSequences_L2 N c k (i : Int) l = some (Ctl.go ())
  | 0, _, _, _, h, _ => absurd h (Nat.not_lt_zero _)
  | k + 1, i, l, hs, hk, hi => by
    unfold fSequences_L2
    by_cases h : i < c.length
    · have hll : l.length = c.length := by have := congrArg List.length hs; rwa [List.length_map, List.length_map] at this
      have hli : l[i].1.length ≤ M := by
        have e : (l.map (fun x => x.1.length))[i]? = (c.map (fun x => x.1.length))[i]? := congrArg (·[i]?) hs
        rw [List.getElem?_map, List.getElem?_map, List.getElem?_eq_getElem (by omega), List.getElem?_eq_getElem h] at e
        have e : some l[i].1.length = some c[i].1.length := e
        injection e with e
        rw [e]
        exact hr _ (List.getElem_mem h)
      obtain ⟨l', e, s⟩ := seq_L3 N M hM N 0 i l (by omega) hli (by omega) (by omega)
      have e' : fSequences_L3 N (i : Int) N 0 l = some l' := e
      rw [if_pos (by omega), e', Option.bind_some, wne i (by omega)]
      exact seq_L2 N M hM hN c hc hr k (i + 1) l' (s.trans hs) (by omega) (by omega)
    · rw [if_neg (by omega)]
theorem seq_L4 (N : Nat) (p : List Int) (hp : p.length ≤ 400000000) : ∀ (k i : Nat), p.length - i < k → i ≤ p.length → fSequences_L4 N p p k (i : Int) = some (Ctl.go ())
  | 0, _, h, _ => absurd h (Nat.not_lt_zero _)
  | k + 1, i, hk, hi => by
    unfold fSequences_L4
    by_cases h : i < p.length
    · rw [if_pos (by omega), ixe h, Option.bind_some, Option.bind_some, if_neg (by simp), wne i (by omega)]
      exact seq_L4 N p hp k (i + 1) (by omega) (by omega)
    · rw [if_neg (by omega)]

theorem fSequences_at (p0 p1 : List Int) (p2 : Int) (hnn : ∀ x ∈ p1, 0 ≤ x) (hb : 0 ≤ p2) (N : Nat) (hN : 3000 < N) : fSequences N p0 p1 p2 = some true := by
  unfold fSequences
  by_cases h0 : p0.length > 2000
  · rw [if_pos (by omega), kIso_eq N (by omega)]; rfl
  rw [if_neg (by omega)]
  by_cases h1 : p1.length > 2000
  · rw [if_pos (by omega), kIso_eq N (by omega)]; rfl
  rw [if_neg (by omega)]
  simp only [Option.bind_some]
  rw [apxe _ _ (by show 0 + _ ≤ _; omega), Option.bind_some, apxe _ _ (by show 0 + _ ≤ _; omega), Option.bind_some, rSeqs_S p0 p1 p2 (by omega) (by omega), Option.bind_some]
  have hrow := seqsR_row p0 p1 p2
  have hL1 : ∀ (k : Nat) (i : Nat), 2 - i < k → i ≤ 2 → fSequences_L1 N p1 p2 p0 p1 (seqsR p0 p1 p2).1 (seqsR p0 p1 p2).2 k (i : Int) = some (Ctl.go ()) := by
    intro k
    induction k with
    | zero => intro i h; exact absurd h (Nat.not_lt_zero _)
    | succ k ih =>
      intro i hk hi
      unfold fSequences_L1
      by_cases h : i < 2
      · rw [if_pos (by omega), pSeqs_eq p0 p1 p2 (by omega) (by omega) hnn hb, Option.bind_some]
        simp only [ne_eq, not_true_eq_false, if_false]
        rw [kAl_eq N _ (by omega) (fun x hx => ⟨by have := hrow.2 x hx; omega, by have := hrow.2 x hx; omega⟩) (by omega)]
        simp only [Option.bind_some, beq_self_eq_true, Bool.not_true]
        have := seq_L2 N 2000 (by omega) (by omega) (seqsR p0 p1 p2).1 (by omega) (fun x hx => by have := hrow.2 x hx; omega) N 0 (seqsR p0 p1 p2).1 rfl (by omega) (Nat.zero_le _)
        have this' : fSequences_L2 N (seqsR p0 p1 p2).1 N 0 (seqsR p0 p1 p2).1 = some (Ctl.go ()) := this
        rw [this', wne i (by omega)]
        exact ih (i + 1) (by omega) (by omega)
      · rw [if_neg (by omega)]
  have hL1' : fSequences_L1 N p1 p2 ([] ++ p0) ([] ++ p1) (seqsR p0 p1 p2).1 (seqsR p0 p1 p2).2 N 0 = some (Ctl.go ()) := hL1 N 0 (by omega) (by omega)
  have hL4' : fSequences_L4 N p0 ([] ++ p0) N 0 = some (Ctl.go ()) := seq_L4 N p0 (by omega) N 0 (by omega) (Nat.zero_le _)
  rw [hL1']
  simp only [Option.bind_some]
  rw [hL4']
  simp only [Option.bind_some]
  rw [kIso_eq N (by omega)]
  rfl
theorem fSequences_true (p0 p1 : List Int) (p2 : Int) (hnn : ∀ x ∈ p1, 0 ≤ x) (hb : 0 ≤ p2) : ∃ N, fSequences N p0 p1 p2 = some true := ⟨4000, fSequences_at p0 p1 p2 hnn hb 4000 (by omega)⟩
end Go.Proofs.Ytjndolnjhbgflaa
