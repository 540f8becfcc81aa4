/-
  slices.Sort: the row, sorted.
-/
import Derived.Test.YtgjlpiljacecpaaZE
import Derived.Test.YtgjlpiljacecpaaZ4
namespace Go.Proofs.Ytgjlpiljacecpaa
open Go Go.RowKit
set_option linter.unusedVariables false
set_option linter.unusedSectionVars false
set_option linter.unusedSimpArgs false
theorem hc_inc (h : Sort.Hint) : (hcode h = 1) ↔ h = .increasing := by cases h <;> decide
theorem hc_dec (h : Sort.Hint) : (hcode h = 2) ↔ h = .decreasing := by cases h <;> decide
theorem st1 (N a b lim : Nat) (wb : Bool) (l : List Int) (hab : a < b) (hb : b ≤ l.length) (hN : 4 < N) (hl : l.length ≤ 400000000) (hlim : 0 < lim ∧ lim ≤ 1000) :
    ∃ l1 lim1, ((match wb with | true => some (l, (lim : Int)) | false => ((zBreak N l (a : Int) (b : Int)).bind fun l62 => some (l62, (IntKind.i64.wrap ((lim : Int) - 1))))) : Option (List Int × Int)) = some (l1, ((lim1 : Nat) : Int)) ∧ (if (!wb) = true then Sort.breakPatterns l.toArray a b else l.toArray) = l1.toArray ∧ (if (!wb) = true then lim - 1 else lim) = lim1 ∧ l1.length = l.length ∧ lim1 ≤ 1000 := by
  cases wb with
  | true => exact ⟨l, lim, rfl, rfl, rfl, rfl, hlim.2⟩
  | false =>
    obtain ⟨l1, e1, e2, e3⟩ := brk_eq N a b l hab hb hN hl
    refine ⟨l1, lim - 1, ?_, e2, rfl, e3, by omega⟩
    simp only
    rw [e1, Option.bind_some, zwm lim (by omega) hlim.1]
theorem st3 (N a b c : Nat) (h : Sort.Hint) (l : List Int) (hab : a < b) (hb : b ≤ l.length) (hN : b < N) (hl : l.length ≤ 400000000) (hc : a ≤ c ∧ c < b) :
    ∃ l2 pv hh, ((if hcode h = 2 then ((zRev N l (a : Int) (b : Int)).bind fun l93 => some (l93, (IntKind.i64.wrap ((IntKind.i64.wrap ((b : Int) - 1)) - (IntKind.i64.wrap ((c : Int) - (a : Int))))), 1)) else some (l, (c : Int), hcode h)) : Option (List Int × Int × Int)) = some (l2, ((pv : Nat) : Int), hcode hh) ∧ (if h = .decreasing then Sort.reverseRange l.toArray a b else l.toArray) = l2.toArray ∧ (if h = .decreasing then (b - 1) - (c - a) else c) = pv ∧ (if h = .decreasing then Sort.Hint.increasing else h) = hh ∧ l2.length = l.length ∧ a ≤ pv ∧ pv < b := by
  by_cases hd : h = .decreasing
  · obtain ⟨l2, e1, e2, e3⟩ := rev_eq N a b l hab hb hN hl
    rw [if_pos ((hc_dec h).2 hd), if_pos hd, if_pos hd, if_pos hd]
    refine ⟨l2, b - 1 - (c - a), .increasing, ?_, e2, rfl, rfl, e3, by omega, by omega⟩
    rw [e1, Option.bind_some, zwm b (by omega) (by omega), zmm c a (by omega) hc.1, zmm (b - 1) (c - a) (by omega) (by omega)]
    rfl
  · rw [if_neg (fun e => hd ((hc_dec h).1 e)), if_neg hd, if_neg hd, if_neg hd]
    exact ⟨l, c, h, rfl, rfl, rfl, rfl, rfl, hc.1, hc.2⟩
theorem st4 (N a b : Nat) (wb wp : Bool) (h : Sort.Hint) (l : List Int) (hab : a < b) (hb : b ≤ l.length) (hN : b < N) (hN5 : 5 < N) (hl : l.length ≤ 400000000) :
    ∃ t l3, ((match wb with | true => (match wp with | true => (if hcode h = 1 then ((zPart N l (a : Int) (b : Int)).bind fun (b115, l116) => (match b115 with | true => some (Ctl.ret l116) | false => some (Ctl.go l116))) else some (Ctl.go l)) | false => some (Ctl.go l)) | false => some (Ctl.go l)) : Option (Ctl (List Int) (List Int))) = some (if t = true then Ctl.ret l3 else Ctl.go l3) ∧ (if (wb && wp && decide (h = .increasing)) = true then Sort.partialInsertionSort Sort.ltInt l.toArray a b else (l.toArray, false)) = (l3.toArray, t) ∧ l3.length = l.length := by
  by_cases hc : (wb && wp && decide (h = .increasing)) = true
  · have hc' := hc
    simp only [Bool.and_eq_true, decide_eq_true_eq] at hc'
    obtain ⟨⟨rfl, rfl⟩, hh⟩ := hc'
    obtain ⟨t, l3, e1, e2, e3⟩ := part_eq N a b l hab hb hN hN5 hl
    rw [if_pos hc]
    refine ⟨t, l3, ?_, e2, e3⟩
    simp only
    rw [if_pos ((hc_inc h).2 hh), e1, Option.bind_some]
    cases t <;> rfl
  · rw [if_neg hc]
    refine ⟨false, l, ?_, rfl, rfl⟩
    cases wb with
    | false => rfl
    | true =>
      cases wp with
      | false => rfl
      | true =>
        have : ¬ h = .increasing := by simpa using hc
        simp only
        rw [if_neg (fun e => this ((hc_inc h).1 e))]
        rfl
theorem pdq_all (N : Nat) (hN : 10 < N) : ∀ (s n k a b lim : Nat) (wb wp : Bool) (l : List Int), b - a ≤ s → b - a ≤ n → b - a < k → a ≤ b → b ≤ l.length → l.length + 1 < N → l.length ≤ 400000000 → lim ≤ 1000 →
    ∃ l', zPdq_L1 N (zPdq_Q N n) k l (a : Int) (b : Int) (lim : Int) wb wp = some l' ∧ Sort.pdq Sort.ltInt l.toArray a b lim wb wp = l'.toArray ∧ l'.length = l.length := by
  intro s
  induction s with
  | zero =>
    intro n k a b lim wb wp l hs hn hk hab hb hNl hl hlim
    obtain ⟨K, rfl⟩ : ∃ K, k = K + 1 := ⟨k - 1, by omega⟩
    unfold zPdq_L1
    rw [Sort.pdq, zmm b a (by omega) hab, if_pos (by omega), if_pos (by omega)]
    obtain ⟨l', e1, e2, e3⟩ := ins_eq N a b l (by omega) hb (by omega) (by omega)
    exact ⟨l', zto e1 rfl, e2, e3⟩
  | succ s ih =>
    intro n k a b lim wb wp l hs hn hk hab hb hNl hl hlim
    obtain ⟨K, rfl⟩ : ∃ K, k = K + 1 := ⟨k - 1, by omega⟩
    unfold zPdq_L1
    rw [Sort.pdq, zmm b a (by omega) hab]
    by_cases h12 : b - a ≤ 12
    · rw [if_pos (by omega), if_pos h12]
      obtain ⟨l', e1, e2, e3⟩ := ins_eq N a b l (by omega) hb (by omega) (by omega)
      exact ⟨l', zto e1 rfl, e2, e3⟩
    rw [if_neg (by omega), if_neg h12]
    by_cases h0 : lim = 0
    · rw [if_pos (by omega), if_pos h0]
      obtain ⟨l', e1, e2, e3⟩ := heap_eq N a b l (by omega) (by omega) hb hl
      exact ⟨l', zto e1 rfl, e2, e3⟩
    rw [if_neg (by omega), if_neg h0]
    dsimp only
    obtain ⟨l1, lim1, a1, a2, a3, a4, a5⟩ := st1 N a b lim wb l (by omega) hb (by omega) hl (by omega)
    rw [a2, a3]
    have p1 := piv_eq N a b l1 (by omega) (by omega) (by omega)
    have p2 := Sort.choosePivot_holds Sort.ltInt l1.toArray a b (by omega)
    generalize Sort.choosePivot Sort.ltInt l1.toArray a b = c at p1 p2 ⊢
    obtain ⟨l2, pv, hh, b1, b2, b3, b4, b5, b6, b7⟩ := st3 N a b c.1 c.2 l1 (by omega) (by omega) (by omega) (by omega) p2
    rw [b2, b3, b4]
    obtain ⟨t, l3, c1, c2, c3⟩ := st4 N a b wb wp hh l2 (by omega) (by omega) (by omega) (by omega) (by omega)
    rw [c2]
    dsimp only
    have len3 : l3.length = l.length := by omega
    cases t with
    | true =>
      refine ⟨l3, ?_, by rw [if_pos rfl], len3⟩
      refine zto a1 ?_
      refine zto p1 ?_
      refine zto b1 ?_
      exact zto c1 rfl
    | false =>
      rw [if_neg (by decide)]
      have hbb : ((if (a : Int) > 0 then ((ix l3 (IntKind.i64.wrap ((a : Int) - 1))).bind fun x133 => ((ix l3 ((pv : Nat) : Int)).bind fun x135 => ((zLess N x133 x135).bind fun b139 => (match b139 with | true => some (false) | false => some (true))))) else some (false)) : Option (Bool)) = some (decide (a > 0) && !Sort.ltInt l3.toArray[a - 1]! l3.toArray[pv]!) := by
        by_cases h : a > 0
        · rw [if_pos (by omega), zwm a (by omega) h, zix (by omega), Option.bind_some, zix (by omega), Option.bind_some, zLess_eq, Option.bind_some, arr_get, arr_get, decide_eq_true h]
          cases Sort.ltInt (l3.getD (a - 1) 0) (l3.getD pv 0) <;> rfl
        · rw [if_neg (by omega), decide_eq_false h]; rfl
      have c1' : _ = some (Ctl.go l3) := c1
      cases hb2 : (decide (a > 0) && !Sort.ltInt l3.toArray[a - 1]! l3.toArray[pv]!) with
      | true =>
        rw [if_pos rfl]
        obtain ⟨m, l4, d1, d2, d3, d4, d5⟩ := parteq_eq N a b pv l3 b6 b7 (by omega) (by omega) (by omega)
        rw [d2]
        dsimp only
        rw [dif_pos ⟨d4, d5⟩]
        obtain ⟨l', e1, e2, e3⟩ := ih n K m b lim1 wb wp l4 (by omega) (by omega) (by omega) d5 (by omega) (by omega) (by omega) a5
        refine ⟨l', ?_, e2, by omega⟩
        refine zto a1 ?_
        refine zto p1 ?_
        refine zto b1 ?_
        refine zto c1' ?_
        refine zto hbb ?_
        rw [hb2]
        exact zto d1 e1
      | false =>
        rw [if_neg (by decide)]
        obtain ⟨m, t2, l4, d1, d2, d3⟩ := cut_eq N a b pv l3 b6 b7 (by omega) (by omega) (by omega)
        have hr := Sort.partition_holds Sort.ltInt Sort.swo_ltInt l3.toArray a b pv b6 b7 (by rw [List.size_toArray]; omega)
        rw [d2] at hr ⊢
        obtain ⟨r1, r2, _⟩ := hr
        have r1 : a ≤ m := r1
        have r2 : m < b := r2
        dsimp only
        rw [dif_pos ⟨r1, r2⟩]
        have q8 : IntKind.i64.wrap (Int.tdiv ((b - a : Nat) : Int) 8) = (((b - a) / 8 : Nat) : Int) := by
          rw [Int.tdiv_eq_ediv_of_nonneg (by omega), zw64 (by omega) (by omega)]; omega
        obtain ⟨n', rfl⟩ : ∃ n', n = n' + 1 := ⟨n - 1, by omega⟩
        by_cases hlt : m - a < b - m
        · rw [if_pos hlt]
          obtain ⟨l5, e1, e2, e3⟩ := ih n' N a m lim1 true true l4 (by omega) (by omega) (by omega) r1 (by omega) (by omega) (by omega) a5
          obtain ⟨l6, f1, f2, f3⟩ := ih (n' + 1) K (m + 1) b lim1 (decide (m - a ≥ (b - a) / 8)) t2 l5 (by omega) (by omega) (by omega) (by omega) (by omega) (by omega) (by omega) a5
          rw [e2, f2]
          refine ⟨l6, ?_, rfl, by omega⟩
          refine zto a1 ?_
          refine zto p1 ?_
          refine zto b1 ?_
          refine zto c1' ?_
          refine zto hbb ?_
          rw [hb2]
          refine zto d1 ?_
          simp only
          have e1' : zPdq_Q N (n' + 1) l4 (a : Int) (m : Int) (lim1 : Int) = some l5 := e1
          rw [zmm m a (by omega) r1, zmm b m (by omega) (by omega), if_pos (by omega), q8, e1', zwp m (by omega)]
          by_cases h8 : m - a ≥ (b - a) / 8
          · rw [decide_eq_true h8] at f1
            rw [if_pos (by omega)]
            exact f1
          · rw [decide_eq_false h8] at f1
            rw [if_neg (by omega)]
            exact f1
        · rw [if_neg hlt]
          obtain ⟨l5, e1, e2, e3⟩ := ih n' N (m + 1) b lim1 true true l4 (by omega) (by omega) (by omega) (by omega) (by omega) (by omega) (by omega) a5
          obtain ⟨l6, f1, f2, f3⟩ := ih (n' + 1) K a m lim1 (decide (b - m ≥ (b - a) / 8)) t2 l5 (by omega) (by omega) (by omega) r1 (by omega) (by omega) (by omega) a5
          rw [e2, f2]
          refine ⟨l6, ?_, rfl, by omega⟩
          refine zto a1 ?_
          refine zto p1 ?_
          refine zto b1 ?_
          refine zto c1' ?_
          refine zto hbb ?_
          rw [hb2]
          refine zto d1 ?_
          simp only
          have e1' : zPdq_Q N (n' + 1) l4 ((m + 1 : Nat) : Int) (b : Int) (lim1 : Int) = some l5 := e1
          rw [zmm m a (by omega) r1, zmm b m (by omega) (by omega), if_neg (by omega), q8, zwp m (by omega), e1']
          by_cases h8 : b - m ≥ (b - a) / 8
          · rw [decide_eq_true h8] at f1
            rw [if_pos (by omega)]
            exact f1
          · rw [decide_eq_false h8] at f1
            rw [if_neg (by omega)]
            exact f1
theorem sort_eq (N : Nat) (l : List Int) (hN : l.length + 10 < N) (hl : l.length ≤ 400000000) : zSort N l = some (l.mergeSort fun x y => decide (x ≤ y)) := by
  unfold zSort zPdq
  rw [u64e (by omega) (by omega), zLen_eq N l.length hl, Option.bind_some]
  have hb := len_le l.length hl
  obtain ⟨M, rfl⟩ : ∃ M, N = M + 1 := ⟨N - 1, by omega⟩
  obtain ⟨l', e1, e2, e3⟩ := pdq_all (M + 1) (by omega) l.length M (M + 1) 0 l.length (Sort.bitsLen l.length) true true l (by omega) (by omega) (by omega) (Nat.zero_le _) (Nat.le_refl _) (by omega) hl (by omega)
  have e1' : zPdq_Q (M + 1) (M + 1) l 0 ((l.length : Nat) : Int) ((Sort.bitsLen l.length : Nat) : Int) = some l' := e1
  rw [e1', Option.bind_some]
  have h := Sort.sortInt l
  unfold Sort.sort at h
  rw [List.size_toArray, e2] at h
  rw [← h]
end Go.Proofs.Ytgjlpiljacecpaa
