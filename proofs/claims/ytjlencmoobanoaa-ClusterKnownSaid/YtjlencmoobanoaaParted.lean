/-
  cluster.Parted.
-/
import Derived.Test.YtjlencmoobanoaaLooked
namespace Go.Proofs.Ytjlencmoobanoaa
open Go Go.RowKit

theorem last_docBounds (P : List Nat) (n : Nat) (hn : P.length = n + 1) (h1 : 1 ≤ n) :
    ∃ (D : List Nat) (d : Nat), docBounds P = D ++ [d] ∧ D.length ≤ n ∧ d ≤ n ∧ (d = n ↔ docPre (P.take n).reverse (P.getD n 0) = true) := by
  obtain ⟨p, hp⟩ : ∃ p, p = fun i => decide (i = 0) || docPre (P.take i).reverse (P.getD i 0) := ⟨_, rfl⟩
  have e : docBounds P = (List.range (n + 1)).filter p := by rw [hp, ← hn]; rfl
  have e0 : decide (n = 0) = false := by simp; omega
  have en : p n = docPre (P.take n).reverse (P.getD n 0) := by rw [hp]; show (decide (n = 0) || _) = _; rw [e0, Bool.false_or]
  rw [e, List.range_succ, List.filter_append, ← en]
  have hl : ((List.range n).filter p).length ≤ n := by have := List.length_filter_le p (List.range n); simpa using this
  cases hpn : p n with
  | true =>
    refine ⟨(List.range n).filter p, n, ?_, hl, Nat.le_refl _, by simp⟩
    simp [hpn]
  | false =>
    have hne : (List.range n).filter p ≠ [] := by
      intro h
      have hm : (0 : Nat) ∈ (List.range n).filter p := List.mem_filter.2 ⟨List.mem_range.2 h1, by rw [hp]; rfl⟩
      rw [h] at hm; cases hm
    have hlast := List.getLast_mem hne
    have hlt : ((List.range n).filter p).getLast hne < n := List.mem_range.1 (List.mem_filter.1 hlast).1
    refine ⟨((List.range n).filter p).dropLast, ((List.range n).filter p).getLast hne, ?_, ?_, by omega, ?_⟩
    · rw [List.dropLast_concat_getLast]
      simp [hpn]
    · rw [List.length_dropLast]; omega
    · constructor
      · intro h; omega
      · intro h; cases h

/-- the piece that Parted gives Bounds -/
theorem last_piece (C : List Nat) (hC : ∀ c ∈ C, c < 14) (i : Nat) (hi : i < C.length) (h1 : 1 ≤ i) (f : Nat) (hf : f = backTo C (thr (C.getD i 0)) (i - 1)) :
    ∃ (D : List Nat) (d : Nat), boundsL ((C.drop f).take (i + 1 - f)) = D ++ [d] ∧ D.length ≤ i ∧ f + d ≤ i ∧ decide (f + d = i) = docPre (C.take i).reverse (C.getD i 0) := by
  have hle := backTo_le C (thr (C.getD i 0)) (i - 1)
  rw [← hf] at hle
  have hb := docPre_back C i hi h1
  rw [← hf] at hb
  rw [bounds_doc _ (fun c hc => hC c (List.mem_of_mem_drop (List.mem_of_mem_take hc)))]
  obtain ⟨D, d, e, hD, hd, hiff⟩ := last_docBounds ((C.drop f).take (i + 1 - f)) (i - f) (by simp; omega) (by omega)
  refine ⟨D, d, e, by omega, by omega, ?_⟩
  have e1 : ((C.drop f).take (i + 1 - f)).take (i - f) = (C.take i).drop f := by
    rw [List.take_take, List.drop_take]
    congr 1
    omega
  have e2 : ((C.drop f).take (i + 1 - f)).getD (i - f) 0 = C.getD i 0 := by
    rw [List.getD_eq_getElem?_getD, List.getD_eq_getElem?_getD, List.getElem?_take_of_lt (by omega), List.getElem?_drop]
    congr 2
    omega
  rw [e1, e2, hb] at hiff
  rw [Bool.eq_iff_iff, decide_eq_true_eq, ← hiff]
  constructor <;> intro h <;> omega

set_option maxRecDepth 20000 in
theorem parted_low (A : Option Addr) (N cap : Nat) (w : World) (i : Int) (hi : i < 1) :
    Calls Try.prog 12 #[.slice A N cap, .int .i64 i] w fun e w' => e = .returned (.bool false) ∧ Below w.heap.size w w' := by
  have b1 : (i < 1) = True := eq_true hi
  go_enter Try.func12, Try.ntmps12
  go_wp2_with fail
  go_ret
  exact ⟨rfl, Below.refl _ _⟩

set_option maxRecDepth 20000 in
theorem parted_high (A : Option Addr) (N cap : Nat) (w : World) (i : Int) (h1 : 1 ≤ i) (hi : (N : Int) ≤ i) :
    Calls Try.prog 12 #[.slice A N cap, .int .i64 i] w fun e w' => e = .returned (.bool false) ∧ Below w.heap.size w w' := by
  have b1 : (i < 1) = False := eq_false (by omega)
  have b2 : ((N : Int) ≤ i) = True := eq_true hi
  go_enter Try.func12, Try.ntmps12
  go_wp2_with fail
  go_ret
  exact ⟨rfl, Below.refl _ _⟩

set_option maxHeartbeats 4000000 in
set_option maxRecDepth 20000 in
theorem parted_in (T : List (Int × Int × Int)) (hT : TabC T) (l : List Int) (g off cap N : Nat) (hN : N = l.length) (hcap : N ≤ cap) (hcap2 : cap ≤ 9223372036854775807) (w : World) (hcell : ∀ (j : Nat) (h : j < l.length), w.cell? ⟨g, off + j, none⟩ = some (.int .i32 l[j])) (hg : g < w.heap.size) (i : Nat) (hi : i < N) (hi1 : 1 ≤ i) (hN2 : N ≤ 1000000) :
    Calls Try.prog 12 #[.slice (some ⟨g, off, none⟩) N cap, .int .i64 (i : Int)] w fun e w' => e = .returned (.bool (docPre ((l.map (clsN T)).take i).reverse ((l.map (clsN T)).getD i 0))) ∧ Below w.heap.size w w' := by
  have HLB := Lib.hid (lookedBack_any T hT l (some ⟨g, off, none⟩) g off cap N hN rfl w hcell i hi hi1 hN2)
  obtain ⟨C, hC⟩ : ∃ C, C = l.map (clsN T) := ⟨_, rfl⟩
  obtain ⟨f, hf⟩ : ∃ f, f = backTo C (thr (C.getD i 0)) (i - 1) := ⟨_, rfl⟩
  have hC14 : ∀ c ∈ C, c < 14 := by
    intro c hc
    rw [hC] at hc
    obtain ⟨x, _, rfl⟩ := List.mem_map.1 hc
    exact cls_lt hT.ok x
  have hCl : C.length = N := by rw [hC, hN, List.length_map]
  have hfle : f ≤ i - 1 := by rw [hf]; exact backTo_le _ _ _
  obtain ⟨D, d, hD, hDl, hdl, hdec⟩ := last_piece C hC14 i (by omega) hi1 f hf
  rw [← hC]
  rw [← hC, ← hf] at HLB
  obtain ⟨ans, hans⟩ : ∃ ans, ans = docPre (C.take i).reverse (C.getD i 0) := ⟨_, rfl⟩
  rw [← hans] at hdec ⊢
  obtain ⟨q, hq⟩ : ∃ q, q = i + 1 := ⟨_, rfl⟩
  have HBN : Hid (∀ w1, Below w.heap.size w w1 → Calls Try.prog 10 #[.slice (some ⟨g, off + f, none⟩) (q - f) (cap - f)] w1 fun e w' => Below w1.heap.size w1 w' ∧ ∃ r, e = .returned r ∧ OwnI w1.heap.size w' r (D ++ [d])) := Lib.hid (by
    intro w1 hb
    have hpl : ((l.drop f).take (i + 1 - f)).length = q - f := by simp; omega
    have hz : RunesZ w1 (.slice (some ⟨g, off + f, none⟩) (q - f) (cap - f)) ((l.drop f).take (i + 1 - f)) := by
      refine ⟨some ⟨g, off + f, none⟩, cap - f, by rw [hpl], by omega, by omega, fun _ => ⟨g, off + f, rfl, by have := hb.size; omega, fun j hj => ?_⟩⟩
      rw [hpl] at hj
      have hj2 : f + j < l.length := by omega
      have := hcell (f + j) hj2
      rw [hb.cell (by exact hg), Nat.add_assoc]
      rw [this]
      simp
    have := bounds_any T hT _ _ w1 hz (by omega)
    rwa [show ((l.drop f).take (i + 1 - f)).map (clsN T) = (C.drop f).take (i + 1 - f) by rw [hC, List.map_take, List.map_drop], hD] at this)
  have b1 : ((i : Int) < 1) = False := eq_false (by omega)
  have b2 : ((N : Int) ≤ (i : Int)) = False := eq_false (by omega)
  have q1 : IntKind.i64.wrap ((i : Int) + 1) = (q : Int) := by rw [IntKind.wrap_i64]; omega
  have HDEC := Lib.hid hdec
  have HI := Lib.hid hi
  have HI1 := Lib.hid hi1
  have HN2 := Lib.hid hN2
  have HFL := Lib.hid hfle
  have HDL := Lib.hid hDl
  have HDD := Lib.hid hdl
  have HQ := Lib.hid hq
  have hfc : f < cap := by omega
  have hfq : (f : Int) ≤ (q : Int) := by omega
  have hqc : (q : Int) ≤ (cap : Int) := by omega
  have f0 : (0 : Int) ≤ (f : Int) := Int.natCast_nonneg _
  have q0 : (0 : Int) ≤ (q : Int) := Int.natCast_nonneg _
  clear hcell hg hC hf hC14 hCl hD hans hT hdec hi hi1 hN hN2 hfle hDl hdl hq hcap hcap2
  go_enter Try.func12, Try.ntmps12
  go_wp2_with fail
  refine (HLB.out).mono ?_
  rintro e w1 ⟨rfl, hb1⟩
  have HB1 := Lib.hid hb1
  clear hb1
  go_wp2_with fail
  all_goals first | (exfalso; omega) | skip
  refine (HBN.out _ HB1.out).mono ?_
  rintro e w2 ⟨hb2, r, rfl, how⟩
  obtain ⟨A2, c2, rfl, hm2, hc2, hx2⟩ := how.read
  obtain ⟨g2, rfl, hg2, hcell2⟩ := hx2 (by simp)
  obtain ⟨m, hm⟩ : ∃ m, m = D.length := ⟨_, rfl⟩
  obtain ⟨M, hM⟩ : ∃ M, M = (D ++ [d]).length := ⟨_, rfl⟩
  have hMm : M = m + 1 := by rw [hM, hm]; simp
  have c3 := hcell2 m (by rw [← hM]; omega)
  have e3 : (D ++ [d])[m]'(by rw [← hM]; omega) = d := by simp [hm]
  rw [e3] at c3
  rw [← hM]
  have hDL := HDL.out
  have hDD := HDD.out
  have hN2 := HN2.out
  have hI := HI.out
  obtain ⟨z, hz⟩ : ∃ z, z = f + d := ⟨_, rfl⟩
  have q2 : IntKind.i64.wrap ((M : Int) - 1) = (m : Int) := by rw [IntKind.wrap_i64]; omega
  have q3 : IntKind.i64.wrap ((f : Int) + (d : Int)) = (z : Int) := by rw [IntKind.wrap_i64]; omega
  have b3 : ((z : Int) == (i : Int)) = ans := by
    rw [← HDEC.out, hz, Bool.eq_iff_iff, beq_iff_eq, decide_eq_true_eq]; omega
  have hmM : (m : Int) < (M : Int) := by omega
  have m0 : (0 : Int) ≤ (m : Int) := Int.natCast_nonneg _
  have HB2 := Lib.hid hb2
  clear how hm2 hc2 hx2 hcell2 hm hM hMm e3 hDL hDD hN2 hI hz hb2
  go_wp2_with fail
  go_ret
  exact ⟨rfl, HB1.out.trans (HB2.out.mono HB1.out.size)⟩
end Go.Proofs.Ytjlencmoobanoaa
