/-
  The document's features, record by record.
-/
import Derived.Test.YtcleaepcjbfmhaaLv
namespace Go.Proofs.Ytcleaepcjbfmhaa
open Go Go.RowKit
set_option linter.unusedVariables false
set_option linter.unusedSectionVars false
set_option linter.unusedSimpArgs false

theorem ok_iff (b : List Int) (t : Int) (ht : 0 ≤ t) (hk : 0 ≤ kF b t) : okF b t = true ↔ hasB b t 4 1 = true ∧ rdv b t = 0 ∧ hasB b t (4 + 2 * kF b t) 1 = true := by
  unfold okF hasB
  simp only [Bool.and_eq_true, decide_eq_true_eq]
  omega
theorem far_eq (ws : List Int) (p2 : Int) (h : ∀ x ∈ ws, (0 ≤ x ∧ x ≤ 65535) ∧ x < p2) : ((List.range' 0 (farM ws.length p2)).filter fun v => ws.contains ((v : Nat) : Int)).map (fun v => ((v : Nat) : Int)) = upL ws mxW := by
  have hm : ∀ x : Int, x ∈ ((List.range' 0 (farM ws.length p2)).filter fun v => ws.contains ((v : Nat) : Int)).map (fun v => ((v : Nat) : Int)) ↔ x ∈ ws := by
    intro x
    rw [List.mem_map]
    constructor
    · rintro ⟨v, hv, rfl⟩
      simpa using (List.mem_filter.1 hv).2
    · intro hx
      have h1 := h x hx
      have h2 : 0 < ws.length := List.length_pos_of_mem hx
      refine ⟨x.toNat, List.mem_filter.2 ⟨List.mem_range'_1.2 ⟨Nat.zero_le _, ?_⟩, by rw [show ((x.toNat : Nat) : Int) = x by omega]; simpa using hx⟩, by omega⟩
      unfold farM
      rw [if_pos h2]
      split <;> omega
  have hu := rise_eq ws mxW (fun x hx => by have := h x hx; have := mxW_eq; omega)
  rw [← hu]
  have hs : (ws.mergeSort fun x y => decide (x ≤ y)).Pairwise (· ≤ ·) := by
    have := List.pairwise_mergeSort (le := fun x y : Int => decide (x ≤ y)) (fun a b c h1 h2 => by simp at *; omega) (fun a b => by simp; omega) ws
    exact this.imp (fun h => by simpa using h)
  refine inc_ext _ _ ?_ (cpt_inc _ hs) fun x => ?_
  · rw [List.pairwise_map]
    exact ((List.pairwise_lt_range' (s := 0) (n := farM ws.length p2)).filter _).imp (fun h => by omega)
  · rw [hm, cpt_mem, List.mem_mergeSort]

section
variable (N : Nat) (b : List Int) (p1 p2 : Int) (n : Nat) (hU : U8 b) (hb : b.length ≤ 3000) (hN : 1000000 < N) (h1 : 0 ≤ p1 ∧ p1 ≤ 3000) (hn : n ≤ 512)
include hU hb hN h1 hn
theorem doc_in (hw : p1 + 2 + 6 * (n : Int) ≤ (b.length : Int)) : ∀ (k i : Nat) (acc : List Fe), n - i < k → i ≤ n → acc.length ≤ i →
    rFeats_L1 N b p1 p2 (n : Int) k acc (i : Int) = some (match specF b p1 p2 (n - i) i acc with | some l => Ctl.go l | none => Ctl.ret ([], 50))
  | 0, _, _, h, _, _ => absurd h (Nat.not_lt_zero _)
  | k + 1, i, acc, hk, hi, ha => by
    unfold rFeats_L1
    by_cases h : i < n
    · have hr := rdv_in hU (p1 + 2 + 6 * (i : Int) + 4)
      rw [if_pos (by omega), zw64 (x := p1 + 2) (by omega) (by omega), zw64 (x := (6 : Int) * (i : Int)) (by omega) (by omega), zw64 (x := p1 + 2 + 6 * (i : Int)) (by omega) (by omega), zw64 (x := p1 + 2 + 6 * (i : Int) + 1) (by omega) (by omega), zw64 (x := p1 + 2 + 6 * (i : Int) + 2) (by omega) (by omega), zw64 (x := p1 + 2 + 6 * (i : Int) + 3) (by omega) (by omega), zw64 (x := p1 + 2 + 6 * (i : Int) + 4) (by omega) (by omega),
        ix_eq (by omega) (by omega), Option.bind_some, ix_eq (by omega) (by omega), Option.bind_some, ix_eq (by omega) (by omega), Option.bind_some, ix_eq (by omega) (by omega), Option.bind_some, num2_eq N b _ hU (by omega) (by omega), Option.bind_some]
      have hT : IntKind.i64.wrap (p1 + rdv b (p1 + 2 + 6 * (i : Int) + 4)) = p1 + rdv b (p1 + 2 + 6 * (i : Int) + 4) := zw64 (by omega) (by omega)
      rw [show n - i = (n - (i + 1)) + 1 by omega]
      unfold specF
      have htr : tagR b (p1 + 2 + 6 * (i : Int)) = (b.getD (p1 + 2 + 6 * (i : Int)).toNat 0, b.getD (p1 + 2 + 6 * (i : Int) + 1).toNat 0, b.getD (p1 + 2 + 6 * (i : Int) + 2).toNat 0, b.getD (p1 + 2 + 6 * (i : Int) + 3).toNat 0) := rfl
      rw [htr]
      have L2 := fun K hK hw' => doc_L2 N b p1 (rdv b (p1 + 2 + 6 * (i : Int) + 4)) _ p2 K hU (by omega) hN hT (by omega) hK hw' N 0 [] (by omega) (Nat.zero_le _) (Nat.le_refl _)
      have L4 := fun K hK hw' => doc_L4 N b p1 (rdv b (p1 + 2 + 6 * (i : Int) + 4)) _ p2 K hU (by omega) hN hT (by omega) hK hw' N 0 (by omega) (Nat.zero_le _)
      rw [hT]
      have hx0 : 0 ≤ p1 + rdv b (p1 + 2 + 6 * (i : Int) + 4) ∧ p1 + rdv b (p1 + 2 + 6 * (i : Int) + 4) ≤ 100000 := by omega
      generalize p1 + rdv b (p1 + 2 + 6 * (i : Int) + 4) = t at L2 L4 hx0 ⊢
      have hkk : 0 ≤ kF b t ∧ kF b t ≤ 65535 := rdv_in hU _
      rw [zw64 (x := t + 2) (by omega) (by omega), num2_eq N b (t + 2) hU (by omega) (by omega), Option.bind_some, all_eq N b t 4 (by omega), Option.bind_some, num2_eq N b t hU (by omega) (by omega)]
      have hkd : rdv b (t + 2) = kF b t := rfl
      rw [hkd, zw64 (x := (2 : Int) * kF b t) (by omega) (by omega), zw64 (x := (4 : Int) + 2 * kF b t) (by omega) (by omega), all_eq N b t _ (by omega)]
      have hoi := ok_iff b t hx0.1 hkk.1
      have hres : resF b t p2 = if okF b t = true ∧ ∀ x ∈ wF b t, x < p2 then some (upL (wF b t) mxW) else none := rfl
      cases hok : okF b t with
      | false =>
        rw [hok] at hres hoi
        rw [if_neg (fun e => by cases e.1)] at hres
        rw [hres]
        cases h4 : hasB b t 4 1 with
        | false => rfl
        | true =>
          by_cases h0 : rdv b t = 0
          · cases h5 : hasB b t (4 + 2 * kF b t) 1 with
            | true => exact absurd (hoi.2 ⟨h4, h0, h5⟩) (by decide)
            | false =>
              simp only [Option.bind_some]
              rw [if_neg (fun e => e h0)]
              rfl
          · simp only [Option.bind_some]
            rw [if_pos h0]
            rfl
      | true =>
        rw [hok] at hres hoi
        obtain ⟨h4, h0, h5⟩ := hoi.1 rfl
        rw [h4, h5]
        simp only [Option.bind_some]
        rw [if_neg (fun e => e h0)]
        simp only [Option.bind_some]
        obtain ⟨K, hK⟩ : ∃ K : Nat, kF b t = (K : Int) := ⟨(kF b t).toNat, by omega⟩
        have hw' : hasB b (t + 4) (K : Int) 2 = true := by
          unfold okF at hok
          simp only [Bool.and_eq_true] at hok
          rw [← hK]; exact hok.2.1
        have hws : wF b t = wds b (t + 4) K := by unfold wF; rw [hK]; rfl
        have l2 := L2 K (by omega) hw'
        have l4 := L4 K (by omega) hw'
        have l2' : rFeats_L2 N b p1 p2 (rdv b (p1 + 2 + 6 * (i : Int) + 4)) (K : Int) N [] 0 = _ := l2
        have l4' : rFeats_L4 N b p1 p2 (rdv b (p1 + 2 + 6 * (i : Int) + 4)) (K : Int) N 0 = _ := l4
        rw [hK, l2', Option.bind_some, l4', Option.bind_some, List.drop_zero]
        by_cases hall : ∀ x ∈ wds b (t + 4) K, x < p2
        · rw [if_pos ⟨rfl, by rw [hws]; exact hall⟩, hws] at hres
          rw [hres, if_pos (List.all_eq_true.2 fun x hx => decide_eq_true (hall x hx))]
          simp only
          have hfar := far_eq (wds b (t + 4) K) p2 (fun x hx => ⟨wds_u16 hU _ _ x hx, hall x hx⟩)
          rw [wds_len] at hfar
          rw [List.nil_append, Nat.sub_zero, hfar]
          have hap : ∀ x : Fe, apg acc [x] = some (acc ++ [x]) := fun x => by unfold apg; rw [if_pos (by show acc.length + 1 ≤ _; omega)]
          rw [hap, Option.bind_some, Option.bind_some, zwp i (by omega)]
          exact doc_in hw k (i + 1) _ (by omega) (by omega) (by rw [List.length_append]; show acc.length + 1 ≤ _; omega)
        · rw [if_neg (fun e => hall (by rw [← hws]; exact e.2))] at hres
          rw [hres, if_neg (fun e => hall fun x hx => of_decide_eq_true (List.all_eq_true.1 e x hx))]
          rfl
    · rw [if_neg (by omega), show n - i = 0 by omega]
      rfl
end
end Go.Proofs.Ytcleaepcjbfmhaa
