/-
  EmbedSingle: one level, one sequence.
-/
import Derived.Test.YtjndolnjhbgflaaH6
import Derived.Test.YtjndolnjhbgflaaFSingle
namespace Go.Proofs.Ytjndolnjhbgflaa
open Go Go.RowKit
set_option linter.unusedVariables false
set_option linter.unusedSectionVars false
set_option linter.unusedSimpArgs false

section
variable {m : List Int} (hm : ∀ x ∈ m, isRem x = false)
include hm
theorem one_cnt {i : Nat} (h : i ≤ m.length) : cnt m i = i := by
  unfold cnt
  rw [List.filter_eq_self.2 (fun a ha => by rw [hm a (List.mem_of_mem_take ha)]; rfl), List.length_take]
  omega
theorem one_len : (plc m).length = m.length := by rw [← cnt_len, one_cnt hm (Nat.le_refl _)]
theorem one_P {k : Nat} (h : k < m.length) : plP m k = k := by
  have hr : isRem (m.getD k 0) = false := by
    rw [List.getD_eq_getElem?_getD, List.getElem?_eq_getElem h]
    exact hm _ (List.getElem_mem h)
  have := (P_cnt h hr).2
  rwa [one_cnt hm (by omega)] at this

theorem one_seqs (d : Nat) (hd0 : m.length = d + 1) (v b : Int) (hv : ¬ v < b) : seqsS m (List.replicate m.length v) b = [((List.range' 0 (d + 1)).map (fun k => ((k : Nat) : Int)), v, (if Int.tmod v 2 = 1 then 2 else 1), (if Int.tmod v 2 = 1 then 2 else 1))] := by
  have hl := one_len hm
  have lv : ∀ k, k < d + 1 → lvN m (List.replicate m.length v) b k = v := by
    intro k hk
    unfold lvN
    rw [if_pos (by omega), one_P hm (by omega), List.getD_eq_getElem?_getD, List.getElem?_replicate, if_pos (by omega)]
    rfl
  have lve : lvN m (List.replicate m.length v) b (d + 1) = b := by unfold lvN; rw [if_neg (by omega)]
  have hside : sideS v b = (if Int.tmod v 2 = 1 then 2 else 1) := by unfold sideS; rw [if_neg hv]
  obtain ⟨s1, s2, s3⟩ := run_step (sc := scI m (List.replicate m.length v) b) (f := 0) sc_s sc_inj d (fun j h1 h2 => by
    have := sc_on (l := m) (n := List.replicate m.length v) (b := b) (k := j - 1) (by omega) (by rw [lv _ (by omega), lv _ (by omega)])
    rw [this]; congr 1; omega)
  rw [Nat.zero_add] at s1 s3
  have hled : ledB (scI m (List.replicate m.length v) b) 0 = false := rfl
  rw [hled] at s1
  have s1' : hd (scI m (List.replicate m.length v) b) (d + 1) = [0] := s1
  unfold seqsS
  generalize hn : List.replicate m.length v = n at *
  rw [hl, hd0, s1']
  show [mkS m _ b (d + 1) 0] = _
  unfold mkS
  rw [s3, lv 0 (by omega)]
  have hlast : lst (List.range' 0 (d + 1)) = d := by rw [List.range'_concat, lst_app]; omega
  rw [hlast]
  have e1 : eosI m n b d = sideS v b := by
    unfold eosI
    rw [lv d (by omega), lve]
    congr 1
    split <;> rfl
  rw [e1, show prevL m n b 0 = b from rfl, hside]
  congr 2
  apply List.map_congr_left
  intro k hk
  have := (List.mem_range'_1.1 hk).2
  rw [one_P hm (by omega)]
end

theorem sgl_L1 (N : Nat) (p : List Int) (hp : p.length ≤ 400000000) : ∀ (k i : Nat) (acc : List Int), p.length - i < k → i ≤ p.length → acc.length ≤ i → fSingle_L1 N p k acc (i : Int) = some (acc ++ (p.drop i).filter fun c => !isRem c)
  | 0, _, _, h, _, _ => absurd h (Nat.not_lt_zero _)
  | k + 1, i, acc, hk, hi, ha => by
    unfold fSingle_L1
    by_cases h : i < p.length
    · rw [if_pos (by omega), ixe h, Option.bind_some, rRem_eq, Option.bind_some, wne i (by omega)]
      have hd : p.drop i = p.getD i 0 :: p.drop (i + 1) := by rw [List.drop_eq_getElem_cons h, List.getD_eq_getElem?_getD, List.getElem?_eq_getElem h]; rfl
      cases hr : isRem (p.getD i 0) with
      | true =>
        rw [hd, List.filter_cons_of_neg (by rw [hr]; decide)]
        exact sgl_L1 N p hp k (i + 1) acc (by omega) (by omega) (by omega)
      | false =>
        rw [hd, List.filter_cons_of_pos (by rw [hr]; rfl)]
        simp only [Option.bind_some]
        rw [apxe _ _ (by show acc.length + 1 ≤ _; omega), Option.bind_some, sgl_L1 N p hp k (i + 1) _ (by omega) (by omega) (by rw [List.length_append]; show acc.length + 1 ≤ _; omega), List.append_assoc]
        rfl
    · rw [if_neg (by omega), List.drop_eq_nil_of_le (by omega), List.filter_nil, List.append_nil]

theorem sgl_L2 (N : Nat) (v : Int) (q : List Int) (hq : q.length ≤ 400000000) : ∀ (k i : Nat) (acc : List Int), q.length - i < k → i ≤ q.length → acc.length = q.length → (∀ x, x < i → acc[x]? = some v) → fSingle_L2 N v q k acc (i : Int) = some (List.replicate q.length v)
  | 0, _, _, h, _, _, _ => absurd h (Nat.not_lt_zero _)
  | k + 1, i, acc, hk, hi, ha, hx => by
    unfold fSingle_L2
    by_cases h : i < q.length
    · rw [if_pos (by omega), ixe (by omega), Option.bind_some, setxe _ (by omega), Option.bind_some, wne i (by omega)]
      exact sgl_L2 N v q hq k (i + 1) _ (by omega) (by omega) (by rw [List.length_set]; exact ha) (fun x hxi => by
        by_cases e : i = x
        · rw [← e, List.getElem?_set_self (by omega)]
        · rw [List.getElem?_set_ne e]; exact hx x (by omega))
    · rw [if_neg (by omega)]
      congr 1
      apply List.ext_getElem?
      intro x
      rw [List.getElem?_replicate]
      by_cases e : x < q.length
      · rw [if_pos e, hx x (by omega)]
      · rw [if_neg e, List.getElem?_eq_none (by omega)]

theorem sgl_L3 (N : Nat) (q : List Int) (a b c : Int) (hq : q.length ≤ 400000000) : ∀ (k i : Nat), q.length - i < k → i ≤ q.length → fSingle_L3 N q [((List.range' 0 q.length).map (fun k => ((k : Nat) : Int)), a, b, c)] k (i : Int) = some (Ctl.go ())
  | 0, _, h, _ => absurd h (Nat.not_lt_zero _)
  | k + 1, i, hk, hi => by
    unfold fSingle_L3
    by_cases h : i < q.length
    · rw [if_pos (by omega)]
      show (ix ((List.range' 0 q.length).map (fun k => ((k : Nat) : Int))) (i : Int)).bind _ = _
      rw [ixe (by rw [List.length_map, List.length_range']; exact h), Option.bind_some, List.getD_eq_getElem?_getD, List.getElem?_map, List.getElem?_range' h]
      have : (Option.map (fun k => ((k : Nat) : Int)) (some (0 + 1 * i))).getD 0 = (i : Int) := by show (((0 + 1 * i : Nat)) : Int) = _; omega
      rw [this, if_neg (by simp), wne i (by omega)]
      exact sgl_L3 N q a b c hq k (i + 1) (by omega) (by omega)
    · rw [if_neg (by omega)]

theorem fSingle_at (p0 : List Int) (p1 p2 : Int) (h1 : 0 ≤ p1) (h2 : 0 ≤ p2) (N : Nat) (hN : 3000 < N) : fSingle N p0 p1 p2 = some true := by
  unfold fSingle
  by_cases h0 : p0.length > 2000
  · rw [if_pos (by omega), kIso_eq N (by omega)]; rfl
  rw [if_neg (by omega)]
  by_cases hlt : p1 < p2
  · rw [if_pos hlt, kIso_eq N (by omega)]; rfl
  rw [if_neg hlt]
  simp only [Option.bind_some]
  have hL1 : fSingle_L1 N p0 N [] 0 = some ([] ++ (p0.drop 0).filter fun c => !isRem c) := sgl_L1 N p0 (by omega) N 0 [] (by omega) (Nat.zero_le _) (Nat.le_refl _)
  rw [hL1, List.nil_append, List.drop_zero, Option.bind_some]
  have hml : (p0.filter fun c => !isRem c).length ≤ p0.length := List.length_filter_le ..
  have hmr : ∀ x ∈ p0.filter fun c => !isRem c, isRem x = false := fun x hx => by simpa using (List.mem_filter.1 hx).2
  generalize (p0.filter fun c => !isRem c) = m at hml hmr ⊢
  have hmk : mkx ((m.length : Nat) : Int) = some (List.replicate m.length 0) := by unfold mkx; rw [if_pos ⟨by omega, by omega⟩, Int.toNat_natCast]
  have hL2 : fSingle_L2 N p1 (List.replicate m.length 0) N (List.replicate m.length 0) 0 = some (List.replicate (List.replicate m.length (0 : Int)).length p1) := sgl_L2 N p1 (List.replicate m.length 0) (by rw [List.length_replicate]; omega) N 0 _ (by rw [List.length_replicate]; omega) (Nat.zero_le _) rfl (fun x hx => absurd hx (Nat.not_lt_zero _))
  rw [hmk, Option.bind_some, hL2, Option.bind_some, List.length_replicate]
  rw [pSeqs_eq m _ p2 (by omega) (by omega) (fun x hx => by rw [(List.mem_replicate.1 hx).2]; exact h1) h2, Option.bind_some]
  have hR : seqsR m (List.replicate m.length p1) p2 = (seqsS m (List.replicate m.length p1) p2, 0) := by
    unfold seqsR
    rw [if_neg (by omega), if_neg (by rw [List.length_replicate]; simp)]
  rw [hR]
  simp only [ne_eq, not_true_eq_false, if_false]
  by_cases hz : m.length = 0
  · have : m = [] := List.length_eq_zero_iff.1 hz
    subst this
    rw [if_pos (show (((([] : List Int).length : Nat)) : Int) = 0 from rfl)]
    simp only [Option.bind_some, if_true]
    rw [if_pos (show ((((seqsS [] (List.replicate ([] : List Int).length p1) p2).length : Nat)) : Int) = 0 from rfl), kIso_eq N (by omega)]
    rfl
  · obtain ⟨d, hd0⟩ : ∃ d, m.length = d + 1 := ⟨m.length - 1, by omega⟩
    rw [if_neg (by omega), one_seqs hmr d hd0 p1 p2 hlt]
    simp only [Option.bind_some]
    have hx : (if Int.tmod p1 2 = 1 then some (2 : Int) else some 1) = some (if Int.tmod p1 2 = 1 then 2 else 1) := by split <;> rfl
    rw [hx]
    generalize (if Int.tmod p1 2 = 1 then (2 : Int) else 1) = s
    simp only [Option.bind_some]
    rw [← hd0]
    have hL3 : fSingle_L3 N m [((List.range' 0 m.length).map (fun k => ((k : Nat) : Int)), p1, s, s)] N 0 = some (Ctl.go ()) := sgl_L3 N m p1 s s (by omega) N 0 (by omega) (Nat.zero_le _)
    have hlen : ((((List.range' 0 m.length).map (fun k => ((k : Nat) : Int))).length : Nat) : Int) = ((m.length : Nat) : Int) := by rw [List.length_map, List.length_range']
    have hg : ixg [((List.range' 0 m.length).map (fun k => ((k : Nat) : Int)), p1, s, s)] (0 : Int) = some ((List.range' 0 m.length).map (fun k => ((k : Nat) : Int)), p1, s, s) := rfl
    rw [hg]
    simp only [Option.bind_some, hlen, ne_eq, not_true_eq_false, if_false, List.length_singleton, hL3]
    rw [kIso_eq N (by omega)]
    rfl
theorem fSingle_true (p0 : List Int) (p1 p2 : Int) (h1 : 0 ≤ p1) (h2 : 0 ≤ p2) : ∃ N, fSingle N p0 p1 p2 = some true := ⟨4000, fSingle_at p0 p1 p2 h1 h2 4000 (by omega)⟩
end Go.Proofs.Ytjndolnjhbgflaa
