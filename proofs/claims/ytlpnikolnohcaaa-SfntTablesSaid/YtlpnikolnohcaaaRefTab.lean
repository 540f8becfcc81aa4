/-
 The document's tables of a font: the walk.
-/
import Derived.Test.YtlpnikolnohcaaaRowT
import Derived.Test.YtlpnikolnohcaaaTabS
import Derived.Test.YtlpnikolnohcaaaStrB
import Derived.Test.YtlpnikolnohcaaaTabP
import Derived.Test.YtlpnikolnohcaaaTk
namespace Go.Proofs.Ytlpnikolnohcaaa
open Go Go.RowKit

def URel (w : World) (l : List Int) (n k : Nat) (vl vi : Value) (wr : World) : Prop := ∃ (vr : Value) (i : Nat) (ts : List TabL), vr = vl ∧ i + k = n ∧ vi = .int .i64 (i : Int) ∧ OwnU w.heap.size wr vr ts ∧ tabsL l n i = some ts ∧ Below w.heap.size w wr

set_option maxHeartbeats 20000000 in
set_option maxRecDepth 20000 in
theorem refTables_any (w : World) (v : Value) (l : List Int) (hv : NumZ .u8 w v l) (hnn : ∀ n c, v = .slice none n c → n = 0 ∧ c = 0) (hA : AllB l) (hl : l.length ≤ 1000000) :
  Calls Try.prog 10 #[v] w fun e w' => Below w.heap.size w w' ∧ ∃ r, e = .returned (.tuple #[r, .int .i64 (tablesS l).2]) ∧ OwnU w.heap.size w' r (tablesS l).1 := by
 have HV := Lib.hid hv
 have HNN := Lib.hid hnn
 have HA := Lib.hid hA
 have HL := Lib.hid hl
 have HW4 := Lib.hid (w_any w v l hv hA hl 4)
 obtain ⟨A, c, rfl, hc1, hc2, hcell⟩ := hv
 have hnb := numAt_b hA 4 2
 obtain ⟨nn, hnn1⟩ : ∃ nn, nn = numAt l 4 2 := ⟨_, rfl⟩
 obtain ⟨n, hn⟩ : ∃ n, n = nn.toNat := ⟨_, rfl⟩
 rw [← hnn1] at hnb HW4
 have hnn2 : nn = (n : Int) := by omega
 rw [hnn2] at HW4
 have HBF : Hid (badFont l = (decide (l.length < 12) || (decide ((n : Int) < 1) || (decide (64 < (n : Int)) || (decide (l.take 12 ≠ headL n) || decide ((l.length : Int) < 12 + 16 * (n : Int))))))) := Lib.hid (by
  unfold badFont
  rw [← hnn1, hnn2, decide_eq_false (show ¬ 16777216 < l.length by omega)]
  simp)
 have HTS : Hid ((badFont l = true → tablesS l = ([], 50)) ∧ (badFont l = false → tabsL l n n = none → tablesS l = ([], 50)) ∧ (badFont l = false → ∀ ts, tabsL l n n = some ts → tablesS l = (ts, 0))) := Lib.hid (by
  unfold tablesS
  rw [← hnn1, ← hn]
  refine ⟨fun h => by rw [if_pos h], fun h h2 => by rw [if_neg (by rw [h]; decide), h2], fun h ts h2 => by rw [if_neg (by rw [h]; decide), h2]⟩)
 obtain ⟨q, hq⟩ : ∃ q, q = tablesS l := ⟨_, rfl⟩
 rw [← hq] at HTS ⊢
 obtain ⟨N, hN⟩ : ∃ N, N = l.length := ⟨_, rfl⟩
 have HN := Lib.hid hN
 rw [← hN] at HV HW4 hc1 HBF ⊢
 have b0 : (16777216 < (N : Int)) = False := eq_false (by omega)
 have b0n : (16777216 < N) = False := eq_false (by omega)
 have HC := Lib.hid hc1
 have HNB := Lib.hid (show n < 65536 by omega)
 clear hnn hA hl hc1 hc2 hnb hnn1 hn hnn2 hq hN hcell
 go_enter Try.func10, Try.ntmps10
 go_wp2_with fail
 refine (HW4.out).mono ?_
 rintro e w1 ⟨rfl, hb1⟩
 have HB1 := Lib.hid hb1
 clear hb1
 go_upto_region 2 with fail
 by_cases h1 : N < 12
 ·have b1 : ((N : Int) < 12) = True := eq_true (by omega)
  have b1n : (N < 12) = True := eq_true h1
  have HQ : Hid (q = ([], 50)) := Lib.hid (HTS.out.1 (by rw [HBF.out]; simp [h1]))
  clear h1
  as_aux_lemma =>
   refine wp_region_held_drew (S := fun w' => Below w1.heap.size w1 w') (by as_aux_lemma => kernel_rfl) ((Below.refl _ w1).drew) (fun hH0 => ?_)
   change wpAnyH _ _ _ _ _ 33 #[false, false, false, false, false, false, false, false, false, false, false, false, false, false, false, false, false, false, false, false, false, false, false, false, false, false, false, false, false, false, false, false, false] _ _
   refine tk1 0 ⟨some 12, _, _, _, _, _⟩ ?_ rfl hH0 ?_ ?_
   rotate_left
   ·(intro w hSw; (try dsimp only at hSw); go_simp; first | done | with_reducible rfl)
   try simp only [Act.put, sT, sZ, sS]
   refine tk1 1 ⟨some 13, _, _, _, _, _⟩ ?_ rfl hH0 ?_ ?_
   rotate_left
   ·(intro w hSw; (try dsimp only at hSw); go_simp; first | done | with_reducible rfl)
   try simp only [Act.put, sT, sZ, sS]
   refine tk1 2 ⟨some 14, _, _, _, _, _⟩ ?_ rfl hH0 ?_ ?_
   rotate_left
   ·(intro w hSw; (try dsimp only at hSw); go_simp; first | done | with_reducible rfl)
   try simp only [Act.put, sT, sZ, sS]
   refine tk1 3 ⟨some 15, _, _, _, _, _⟩ ?_ rfl hH0 ?_ ?_
   rotate_left
   ·(intro w hSw; (try dsimp only at hSw); go_simp; first | done | with_reducible rfl)
   try simp only [Act.put, sT, sZ, sS]
   refine tk1 4 ⟨some 16, _, _, _, _, _⟩ ?_ rfl hH0 ?_ ?_
   rotate_left
   ·(intro w hSw; (try dsimp only at hSw); go_simp; first | done | with_reducible rfl)
   try simp only [Act.put, sT, sZ, sS]
   refine tk1 5 ⟨some 17, _, _, _, _, _⟩ ?_ rfl hH0 ?_ ?_
   rotate_left
   ·(intro w hSw; (try dsimp only at hSw); go_simp; first | done | with_reducible rfl)
   try simp only [Act.put, sT, sZ, sS]
   refine tk1 6 ⟨some 18, _, _, _, _, _⟩ ?_ rfl hH0 ?_ ?_
   rotate_left
   ·(intro w hSw; (try dsimp only at hSw); go_simp; first | done | with_reducible rfl)
   try simp only [Act.put, sT, sZ, sS]
   refine tk1 7 ⟨some 19, _, _, _, _, _⟩ ?_ rfl hH0 ?_ ?_
   rotate_left
   ·(intro w hSw; (try dsimp only at hSw); go_simp; first | done | with_reducible rfl)
   try simp only [Act.put, sT, sZ, sS]
   refine tk1 8 ⟨some 20, _, _, _, _, _⟩ ?_ rfl hH0 ?_ ?_
   rotate_left
   ·(intro w hSw; (try dsimp only at hSw); go_simp; first | done | with_reducible rfl)
   try simp only [Act.put, sT, sZ, sS]
   refine tk0 9 ⟨some 21, _, _, _, _, _⟩ rfl hH0 ?_
   try simp only [Act.put, sT, sZ, sS]
   refine tk0 10 ⟨some 22, _, _, _, _, _⟩ rfl hH0 ?_
   try simp only [Act.put, sT, sZ, sS]
   refine tk1 11 ⟨some 23, _, _, _, _, _⟩ ?_ rfl hH0 ?_ ?_
   rotate_left
   ·(intro w hSw; (try dsimp only at hSw); go_simp; first | done | with_reducible rfl)
   try simp only [Act.put, sT, sZ, sS]
   refine tk1 12 ⟨some 24, _, _, _, _, _⟩ ?_ rfl hH0 ?_ ?_
   rotate_left
   ·(intro w hSw; (try dsimp only at hSw); go_simp; first | done | with_reducible rfl)
   try simp only [Act.put, sT, sZ, sS]
   refine tk0 13 ⟨some 25, _, _, _, _, _⟩ rfl hH0 ?_
   try simp only [Act.put, sT, sZ, sS]
   refine tk0 14 ⟨some 26, _, _, _, _, _⟩ rfl hH0 ?_
   try simp only [Act.put, sT, sZ, sS]
   refine tk1 15 ⟨some 27, _, _, _, _, _⟩ ?_ rfl hH0 ?_ ?_
   rotate_left
   ·(intro w hSw; (try dsimp only at hSw); go_simp; first | done | with_reducible rfl)
   try simp only [Act.put, sT, sZ, sS]
   refine tk1 16 ⟨some 28, _, _, _, _, _⟩ ?_ rfl hH0 ?_ ?_
   rotate_left
   ·(intro w hSw; (try dsimp only at hSw); go_simp; first | done | with_reducible rfl)
   try simp only [Act.put, sT, sZ, sS]
   refine tk0 17 ⟨some 29, _, _, _, _, _⟩ rfl hH0 ?_
   try simp only [Act.put, sT, sZ, sS]
   refine tk0 18 ⟨some 30, _, _, _, _, _⟩ rfl hH0 ?_
   try simp only [Act.put, sT, sZ, sS]
   refine tk0 19 ⟨some 31, _, _, _, _, _⟩ rfl hH0 ?_
   try simp only [Act.put, sT, sZ, sS]
   refine tk0 20 ⟨some 32, _, _, _, _, _⟩ rfl hH0 ?_
   try simp only [Act.put, sT, sZ, sS]
   refine tk0 21 ⟨some 33, _, _, _, _, _⟩ rfl hH0 ?_
   try simp only [Act.put, sT, sZ, sS]
   refine tk0 22 ⟨some 34, _, _, _, _, _⟩ rfl hH0 ?_
   try simp only [Act.put, sT, sZ, sS]
   refine tk0 23 ⟨some 35, _, _, _, _, _⟩ rfl hH0 ?_
   try simp only [Act.put, sT, sZ, sS]
   refine tk1 24 ⟨some 36, _, _, _, _, _⟩ ?_ rfl hH0 ?_ ?_
   rotate_left
   ·(intro w hSw; (try dsimp only at hSw); go_simp; first | done | with_reducible rfl)
   try simp only [Act.put, sT, sZ, sS]
   refine tk1 25 ⟨some 37, _, _, _, _, _⟩ ?_ rfl hH0 ?_ ?_
   rotate_left
   ·(intro w hSw; (try dsimp only at hSw); go_simp; first | done | with_reducible rfl)
   try simp only [Act.put, sT, sZ, sS]
   refine tk0 26 ⟨some 38, _, _, _, _, _⟩ rfl hH0 ?_
   try simp only [Act.put, sT, sZ, sS]
   refine tk0 27 ⟨some 39, _, _, _, _, _⟩ rfl hH0 ?_
   try simp only [Act.put, sT, sZ, sS]
   refine tk0 28 ⟨some 40, _, _, _, _, _⟩ rfl hH0 ?_
   try simp only [Act.put, sT, sZ, sS]
   refine tk0 29 ⟨some 41, _, _, _, _, _⟩ rfl hH0 ?_
   try simp only [Act.put, sT, sZ, sS]
   refine tk0 30 ⟨some 42, _, _, _, _, _⟩ rfl hH0 ?_
   try simp only [Act.put, sT, sZ, sS]
   refine tk0 31 ⟨some 43, _, _, _, _, _⟩ rfl hH0 ?_
   try simp only [Act.put, sT, sZ, sS]
   refine tk1 32 ⟨some 44, _, _, _, _, _⟩ ?_ rfl hH0 ?_ ?_
   rotate_left
   ·(intro w hSw; (try dsimp only at hSw); go_simp; first | done | with_reducible rfl)
   try simp only [Act.put, sT, sZ, sS]
   refine wpAnyH_done (by as_aux_lemma => kernel_rfl) ?_ _
   go_wp2_with fail
   go_ret2
   exact ⟨HB1.out.trans (hH0.mono HB1.out.size), _, by rw [HQ.out]; rfl, by rw [HQ.out]; exact OwnU.nil _ _⟩
 ·have b1 : ((N : Int) < 12) = False := eq_false (by omega)
  have b1n : (N < 12) = False := eq_false h1
  by_cases h2 : n < 1
  ·have b2 : ((n : Int) < 1) = True := eq_true (by omega)
   have b2n : (n < 1) = True := eq_true h2
   have b2z : (n = 0) = True := eq_true (by omega)
   have HQ : Hid (q = ([], 50)) := Lib.hid (HTS.out.1 (by rw [HBF.out]; simp; omega))
   clear h1 h2
   as_aux_lemma =>
    refine wp_region_held_drew (S := fun w' => Below w1.heap.size w1 w') (by as_aux_lemma => kernel_rfl) ((Below.refl _ w1).drew) (fun hH0 => ?_)
    change wpAnyH _ _ _ _ _ 33 #[false, false, false, false, false, false, false, false, false, false, false, false, false, false, false, false, false, false, false, false, false, false, false, false, false, false, false, false, false, false, false, false, false] _ _
    refine tk1 0 ⟨some 12, _, _, _, _, _⟩ ?_ rfl hH0 ?_ ?_
    rotate_left
    ·(intro w hSw; (try dsimp only at hSw); go_simp; first | done | with_reducible rfl)
    try simp only [Act.put, sT, sZ, sS]
    refine tk1 1 ⟨some 13, _, _, _, _, _⟩ ?_ rfl hH0 ?_ ?_
    rotate_left
    ·(intro w hSw; (try dsimp only at hSw); go_simp; first | done | with_reducible rfl)
    try simp only [Act.put, sT, sZ, sS]
    refine tk1 2 ⟨some 14, _, _, _, _, _⟩ ?_ rfl hH0 ?_ ?_
    rotate_left
    ·(intro w hSw; (try dsimp only at hSw); go_simp; first | done | with_reducible rfl)
    try simp only [Act.put, sT, sZ, sS]
    refine tk1 3 ⟨some 15, _, _, _, _, _⟩ ?_ rfl hH0 ?_ ?_
    rotate_left
    ·(intro w hSw; (try dsimp only at hSw); go_simp; first | done | with_reducible rfl)
    try simp only [Act.put, sT, sZ, sS]
    refine tk1 4 ⟨some 16, _, _, _, _, _⟩ ?_ rfl hH0 ?_ ?_
    rotate_left
    ·(intro w hSw; (try dsimp only at hSw); go_simp; first | done | with_reducible rfl)
    try simp only [Act.put, sT, sZ, sS]
    refine tk1 5 ⟨some 17, _, _, _, _, _⟩ ?_ rfl hH0 ?_ ?_
    rotate_left
    ·(intro w hSw; (try dsimp only at hSw); go_simp; first | done | with_reducible rfl)
    try simp only [Act.put, sT, sZ, sS]
    refine tk1 6 ⟨some 18, _, _, _, _, _⟩ ?_ rfl hH0 ?_ ?_
    rotate_left
    ·(intro w hSw; (try dsimp only at hSw); go_simp; first | done | with_reducible rfl)
    try simp only [Act.put, sT, sZ, sS]
    refine tk1 7 ⟨some 19, _, _, _, _, _⟩ ?_ rfl hH0 ?_ ?_
    rotate_left
    ·(intro w hSw; (try dsimp only at hSw); go_simp; first | done | with_reducible rfl)
    try simp only [Act.put, sT, sZ, sS]
    refine tk1 8 ⟨some 20, _, _, _, _, _⟩ ?_ rfl hH0 ?_ ?_
    rotate_left
    ·(intro w hSw; (try dsimp only at hSw); go_simp; first | done | with_reducible rfl)
    try simp only [Act.put, sT, sZ, sS]
    refine tk1 9 ⟨some 21, _, _, _, _, _⟩ ?_ rfl hH0 ?_ ?_
    rotate_left
    ·(intro w hSw; (try dsimp only at hSw); go_simp; first | done | with_reducible rfl)
    try simp only [Act.put, sT, sZ, sS]
    refine tk1 10 ⟨some 22, _, _, _, _, _⟩ ?_ rfl hH0 ?_ ?_
    rotate_left
    ·(intro w hSw; (try dsimp only at hSw); go_simp; first | done | with_reducible rfl)
    try simp only [Act.put, sT, sZ, sS]
    refine tk1 11 ⟨some 23, _, _, _, _, _⟩ ?_ rfl hH0 ?_ ?_
    rotate_left
    ·(intro w hSw; (try dsimp only at hSw); go_simp; first | done | with_reducible rfl)
    try simp only [Act.put, sT, sZ, sS]
    refine tk1 12 ⟨some 24, _, _, _, _, _⟩ ?_ rfl hH0 ?_ ?_
    rotate_left
    ·(intro w hSw; (try dsimp only at hSw); go_simp; first | done | with_reducible rfl)
    try simp only [Act.put, sT, sZ, sS]
    refine tk0 13 ⟨some 25, _, _, _, _, _⟩ rfl hH0 ?_
    try simp only [Act.put, sT, sZ, sS]
    refine tk0 14 ⟨some 26, _, _, _, _, _⟩ rfl hH0 ?_
    try simp only [Act.put, sT, sZ, sS]
    refine tk1 15 ⟨some 27, _, _, _, _, _⟩ ?_ rfl hH0 ?_ ?_
    rotate_left
    ·(intro w hSw; (try dsimp only at hSw); go_simp; first | done | with_reducible rfl)
    try simp only [Act.put, sT, sZ, sS]
    refine tk1 16 ⟨some 28, _, _, _, _, _⟩ ?_ rfl hH0 ?_ ?_
    rotate_left
    ·(intro w hSw; (try dsimp only at hSw); go_simp; first | done | with_reducible rfl)
    try simp only [Act.put, sT, sZ, sS]
    refine tk0 17 ⟨some 29, _, _, _, _, _⟩ rfl hH0 ?_
    try simp only [Act.put, sT, sZ, sS]
    refine tk0 18 ⟨some 30, _, _, _, _, _⟩ rfl hH0 ?_
    try simp only [Act.put, sT, sZ, sS]
    refine tk0 19 ⟨some 31, _, _, _, _, _⟩ rfl hH0 ?_
    try simp only [Act.put, sT, sZ, sS]
    refine tk0 20 ⟨some 32, _, _, _, _, _⟩ rfl hH0 ?_
    try simp only [Act.put, sT, sZ, sS]
    refine tk0 21 ⟨some 33, _, _, _, _, _⟩ rfl hH0 ?_
    try simp only [Act.put, sT, sZ, sS]
    refine tk0 22 ⟨some 34, _, _, _, _, _⟩ rfl hH0 ?_
    try simp only [Act.put, sT, sZ, sS]
    refine tk0 23 ⟨some 35, _, _, _, _, _⟩ rfl hH0 ?_
    try simp only [Act.put, sT, sZ, sS]
    refine tk1 24 ⟨some 36, _, _, _, _, _⟩ ?_ rfl hH0 ?_ ?_
    rotate_left
    ·(intro w hSw; (try dsimp only at hSw); go_simp; first | done | with_reducible rfl)
    try simp only [Act.put, sT, sZ, sS]
    refine tk1 25 ⟨some 37, _, _, _, _, _⟩ ?_ rfl hH0 ?_ ?_
    rotate_left
    ·(intro w hSw; (try dsimp only at hSw); go_simp; first | done | with_reducible rfl)
    try simp only [Act.put, sT, sZ, sS]
    refine tk0 26 ⟨some 38, _, _, _, _, _⟩ rfl hH0 ?_
    try simp only [Act.put, sT, sZ, sS]
    refine tk0 27 ⟨some 39, _, _, _, _, _⟩ rfl hH0 ?_
    try simp only [Act.put, sT, sZ, sS]
    refine tk0 28 ⟨some 40, _, _, _, _, _⟩ rfl hH0 ?_
    try simp only [Act.put, sT, sZ, sS]
    refine tk0 29 ⟨some 41, _, _, _, _, _⟩ rfl hH0 ?_
    try simp only [Act.put, sT, sZ, sS]
    refine tk0 30 ⟨some 42, _, _, _, _, _⟩ rfl hH0 ?_
    try simp only [Act.put, sT, sZ, sS]
    refine tk0 31 ⟨some 43, _, _, _, _, _⟩ rfl hH0 ?_
    try simp only [Act.put, sT, sZ, sS]
    refine tk1 32 ⟨some 44, _, _, _, _, _⟩ ?_ rfl hH0 ?_ ?_
    rotate_left
    ·(intro w hSw; (try dsimp only at hSw); go_simp; first | done | with_reducible rfl)
    try simp only [Act.put, sT, sZ, sS]
    refine wpAnyH_done (by as_aux_lemma => kernel_rfl) ?_ _
    go_wp2_with fail
    go_ret2
    exact ⟨HB1.out.trans (hH0.mono HB1.out.size), _, by rw [HQ.out]; rfl, by rw [HQ.out]; exact OwnU.nil _ _⟩
  ·have b2 : ((n : Int) < 1) = False := eq_false (by omega)
   have b2n : (n < 1) = False := eq_false h2
   have b2z : (n = 0) = False := eq_false (by omega)
   by_cases h3 : 64 < n
   ·have b3 : (64 < (n : Int)) = True := eq_true (by omega)
    have b3n : (64 < n) = True := eq_true h3
    have HQ : Hid (q = ([], 50)) := Lib.hid (HTS.out.1 (by rw [HBF.out]; simp; omega))
    clear h1 h2 h3
    as_aux_lemma =>
     refine wp_region_held_drew (S := fun w' => Below w1.heap.size w1 w') (by as_aux_lemma => kernel_rfl) ((Below.refl _ w1).drew) (fun hH0 => ?_)
     change wpAnyH _ _ _ _ _ 33 #[false, false, false, false, false, false, false, false, false, false, false, false, false, false, false, false, false, false, false, false, false, false, false, false, false, false, false, false, false, false, false, false, false] _ _
     refine tk1 0 ⟨some 12, _, _, _, _, _⟩ ?_ rfl hH0 ?_ ?_
     rotate_left
     ·(intro w hSw; (try dsimp only at hSw); go_simp; first | done | with_reducible rfl)
     try simp only [Act.put, sT, sZ, sS]
     refine tk1 1 ⟨some 13, _, _, _, _, _⟩ ?_ rfl hH0 ?_ ?_
     rotate_left
     ·(intro w hSw; (try dsimp only at hSw); go_simp; first | done | with_reducible rfl)
     try simp only [Act.put, sT, sZ, sS]
     refine tk1 2 ⟨some 14, _, _, _, _, _⟩ ?_ rfl hH0 ?_ ?_
     rotate_left
     ·(intro w hSw; (try dsimp only at hSw); go_simp; first | done | with_reducible rfl)
     try simp only [Act.put, sT, sZ, sS]
     refine tk1 3 ⟨some 15, _, _, _, _, _⟩ ?_ rfl hH0 ?_ ?_
     rotate_left
     ·(intro w hSw; (try dsimp only at hSw); go_simp; first | done | with_reducible rfl)
     try simp only [Act.put, sT, sZ, sS]
     refine tk1 4 ⟨some 16, _, _, _, _, _⟩ ?_ rfl hH0 ?_ ?_
     rotate_left
     ·(intro w hSw; (try dsimp only at hSw); go_simp; first | done | with_reducible rfl)
     try simp only [Act.put, sT, sZ, sS]
     refine tk1 5 ⟨some 17, _, _, _, _, _⟩ ?_ rfl hH0 ?_ ?_
     rotate_left
     ·(intro w hSw; (try dsimp only at hSw); go_simp; first | done | with_reducible rfl)
     try simp only [Act.put, sT, sZ, sS]
     refine tk1 6 ⟨some 18, _, _, _, _, _⟩ ?_ rfl hH0 ?_ ?_
     rotate_left
     ·(intro w hSw; (try dsimp only at hSw); go_simp; first | done | with_reducible rfl)
     try simp only [Act.put, sT, sZ, sS]
     refine tk1 7 ⟨some 19, _, _, _, _, _⟩ ?_ rfl hH0 ?_ ?_
     rotate_left
     ·(intro w hSw; (try dsimp only at hSw); go_simp; first | done | with_reducible rfl)
     try simp only [Act.put, sT, sZ, sS]
     refine tk1 8 ⟨some 20, _, _, _, _, _⟩ ?_ rfl hH0 ?_ ?_
     rotate_left
     ·(intro w hSw; (try dsimp only at hSw); go_simp; first | done | with_reducible rfl)
     try simp only [Act.put, sT, sZ, sS]
     refine tk1 9 ⟨some 21, _, _, _, _, _⟩ ?_ rfl hH0 ?_ ?_
     rotate_left
     ·(intro w hSw; (try dsimp only at hSw); go_simp; first | done | with_reducible rfl)
     try simp only [Act.put, sT, sZ, sS]
     refine tk1 10 ⟨some 22, _, _, _, _, _⟩ ?_ rfl hH0 ?_ ?_
     rotate_left
     ·(intro w hSw; (try dsimp only at hSw); go_simp; first | done | with_reducible rfl)
     try simp only [Act.put, sT, sZ, sS]
     refine tk1 11 ⟨some 23, _, _, _, _, _⟩ ?_ rfl hH0 ?_ ?_
     rotate_left
     ·(intro w hSw; (try dsimp only at hSw); go_simp; first | done | with_reducible rfl)
     try simp only [Act.put, sT, sZ, sS]
     refine tk1 12 ⟨some 24, _, _, _, _, _⟩ ?_ rfl hH0 ?_ ?_
     rotate_left
     ·(intro w hSw; (try dsimp only at hSw); go_simp; first | done | with_reducible rfl)
     try simp only [Act.put, sT, sZ, sS]
     refine tk1 13 ⟨some 25, _, _, _, _, _⟩ ?_ rfl hH0 ?_ ?_
     rotate_left
     ·(intro w hSw; (try dsimp only at hSw); go_simp; first | done | with_reducible rfl)
     try simp only [Act.put, sT, sZ, sS]
     refine tk1 14 ⟨some 26, _, _, _, _, _⟩ ?_ rfl hH0 ?_ ?_
     rotate_left
     ·(intro w hSw; (try dsimp only at hSw); go_simp; first | done | with_reducible rfl)
     try simp only [Act.put, sT, sZ, sS]
     refine tk1 15 ⟨some 27, _, _, _, _, _⟩ ?_ rfl hH0 ?_ ?_
     rotate_left
     ·(intro w hSw; (try dsimp only at hSw); go_simp; first | done | with_reducible rfl)
     try simp only [Act.put, sT, sZ, sS]
     refine tk1 16 ⟨some 28, _, _, _, _, _⟩ ?_ rfl hH0 ?_ ?_
     rotate_left
     ·(intro w hSw; (try dsimp only at hSw); go_simp; first | done | with_reducible rfl)
     try simp only [Act.put, sT, sZ, sS]
     refine tk0 17 ⟨some 29, _, _, _, _, _⟩ rfl hH0 ?_
     try simp only [Act.put, sT, sZ, sS]
     refine tk0 18 ⟨some 30, _, _, _, _, _⟩ rfl hH0 ?_
     try simp only [Act.put, sT, sZ, sS]
     refine tk0 19 ⟨some 31, _, _, _, _, _⟩ rfl hH0 ?_
     try simp only [Act.put, sT, sZ, sS]
     refine tk0 20 ⟨some 32, _, _, _, _, _⟩ rfl hH0 ?_
     try simp only [Act.put, sT, sZ, sS]
     refine tk0 21 ⟨some 33, _, _, _, _, _⟩ rfl hH0 ?_
     try simp only [Act.put, sT, sZ, sS]
     refine tk0 22 ⟨some 34, _, _, _, _, _⟩ rfl hH0 ?_
     try simp only [Act.put, sT, sZ, sS]
     refine tk0 23 ⟨some 35, _, _, _, _, _⟩ rfl hH0 ?_
     try simp only [Act.put, sT, sZ, sS]
     refine tk1 24 ⟨some 36, _, _, _, _, _⟩ ?_ rfl hH0 ?_ ?_
     rotate_left
     ·(intro w hSw; (try dsimp only at hSw); go_simp; first | done | with_reducible rfl)
     try simp only [Act.put, sT, sZ, sS]
     refine tk1 25 ⟨some 37, _, _, _, _, _⟩ ?_ rfl hH0 ?_ ?_
     rotate_left
     ·(intro w hSw; (try dsimp only at hSw); go_simp; first | done | with_reducible rfl)
     try simp only [Act.put, sT, sZ, sS]
     refine tk0 26 ⟨some 38, _, _, _, _, _⟩ rfl hH0 ?_
     try simp only [Act.put, sT, sZ, sS]
     refine tk0 27 ⟨some 39, _, _, _, _, _⟩ rfl hH0 ?_
     try simp only [Act.put, sT, sZ, sS]
     refine tk0 28 ⟨some 40, _, _, _, _, _⟩ rfl hH0 ?_
     try simp only [Act.put, sT, sZ, sS]
     refine tk0 29 ⟨some 41, _, _, _, _, _⟩ rfl hH0 ?_
     try simp only [Act.put, sT, sZ, sS]
     refine tk0 30 ⟨some 42, _, _, _, _, _⟩ rfl hH0 ?_
     try simp only [Act.put, sT, sZ, sS]
     refine tk0 31 ⟨some 43, _, _, _, _, _⟩ rfl hH0 ?_
     try simp only [Act.put, sT, sZ, sS]
     refine tk1 32 ⟨some 44, _, _, _, _, _⟩ ?_ rfl hH0 ?_ ?_
     rotate_left
     ·(intro w hSw; (try dsimp only at hSw); go_simp; first | done | with_reducible rfl)
     try simp only [Act.put, sT, sZ, sS]
     refine wpAnyH_done (by as_aux_lemma => kernel_rfl) ?_ _
     go_wp2_with fail
     go_ret2
     exact ⟨HB1.out.trans (hH0.mono HB1.out.size), _, by rw [HQ.out]; rfl, by rw [HQ.out]; exact OwnU.nil _ _⟩
   ·have b3 : (64 < (n : Int)) = False := eq_false (by omega)
    have b3n : (64 < n) = False := eq_false h3
    have HHD : Hid (∀ wx, Calls Try.prog 26 #[.int .i64 (n : Int)] wx fun e w' => Below wx.heap.size wx w' ∧ ∃ r B, e = .returned r ∧ wx.heap.size ≤ B ∧ OwnB B w' r (headL n)) := Lib.hid (fun wx => headR_any wx n (by omega) (by omega))
    obtain ⟨H12, hH12⟩ : ∃ V, V = cutV A 0 12 c := ⟨_, rfl⟩
    have hsl : ∀ W, (Instr.slice 22 (.slice A N c) none (some (.int .i64 12)) none).run Try.prog W = .ok H12 W := fun W => by rw [hH12]; exact run_cut_h W A N c 12 (by have := HC.out; omega)
    obtain ⟨S1, hS1⟩ : ∃ S, S = strOfNums (l.take 12) := ⟨_, rfl⟩
    obtain ⟨S2, hS2⟩ : ∃ S, S = strOfNums (headL n) := ⟨_, rfl⟩
    have hcv : ∀ W, Below w1.heap.size w1 W → (convert 22 9 H12).run Try.prog W = .ok (.string S1) W := fun W hW => by
     have h := cut_num (HV.out.below (HB1.out.trans (hW.mono HB1.out.size))) 0 12 (by omega) (by have := HN.out; omega)
     rw [← hH12] at h
     simp only [List.drop_zero, Nat.sub_zero] at h
     rw [hS1]; exact run_str_whole h
    obtain ⟨n16, hn16⟩ : ∃ x, x = 16 * n := ⟨_, rfl⟩
    obtain ⟨bg, hbg⟩ : ∃ bg, bg = 12 + 16 * n := ⟨_, rfl⟩
    have q1 : IntKind.i64.wrap (16 * (n : Int)) = (n16 : Int) := by rw [IntKind.wrap_i64]; omega
    have q2 : IntKind.i64.wrap (12 + (n16 : Int)) = (bg : Int) := by rw [IntKind.wrap_i64]; omega
    have HBGE := Lib.hid hbg
    have HNL : Hid (1 ≤ n ∧ n ≤ 64) := Lib.hid (by omega)
    have HNB2 := Lib.hid h1
    have HS2 := Lib.hid hS2
    clear hH12
    by_cases h4 : l.take 12 = headL n
    ·have bs : (S1.toList == S2.toList) = true := by rw [hS1, hS2, h4, beq_self_eq_true]
     by_cases h5 : N < bg
     ·have b5 : ((N : Int) < (bg : Int)) = True := eq_true (by omega)
      have b5n : (N < bg) = True := eq_true h5
      have HQ : Hid (q = ([], 50)) := Lib.hid (HTS.out.1 (by rw [HBF.out]; simp; omega))
      clear h1 h2 h3 h4 h5 hbg hn16 hS1 hS2
      as_aux_lemma =>
       refine wp_region_held_drew (S := fun w' => Below w1.heap.size w1 w') (by as_aux_lemma => kernel_rfl) ((Below.refl _ w1).drew) (fun hH0 => ?_)
       change wpAnyH _ _ _ _ _ 33 #[false, false, false, false, false, false, false, false, false, false, false, false, false, false, false, false, false, false, false, false, false, false, false, false, false, false, false, false, false, false, false, false, false] _ _
       refine tk1 0 ⟨some 12, _, _, _, _, _⟩ ?_ rfl hH0 ?_ ?_
       rotate_left
       ·(intro w hSw; (try dsimp only at hSw); go_simp; first | done | with_reducible rfl)
       try simp only [Act.put, sT, sZ, sS]
       refine tk1 1 ⟨some 13, _, _, _, _, _⟩ ?_ rfl hH0 ?_ ?_
       rotate_left
       ·(intro w hSw; (try dsimp only at hSw); go_simp; first | done | with_reducible rfl)
       try simp only [Act.put, sT, sZ, sS]
       refine tk1 2 ⟨some 14, _, _, _, _, _⟩ ?_ rfl hH0 ?_ ?_
       rotate_left
       ·(intro w hSw; (try dsimp only at hSw); go_simp; first | done | with_reducible rfl)
       try simp only [Act.put, sT, sZ, sS]
       refine tk1 3 ⟨some 15, _, _, _, _, _⟩ ?_ rfl hH0 ?_ ?_
       rotate_left
       ·(intro w hSw; (try dsimp only at hSw); go_simp; first | done | with_reducible rfl)
       try simp only [Act.put, sT, sZ, sS]
       refine tk1 4 ⟨some 16, _, _, _, _, _⟩ ?_ rfl hH0 ?_ ?_
       rotate_left
       ·(intro w hSw; (try dsimp only at hSw); go_simp; first | done | with_reducible rfl)
       try simp only [Act.put, sT, sZ, sS]
       refine tk1 5 ⟨some 17, _, _, _, _, _⟩ ?_ rfl hH0 ?_ ?_
       rotate_left
       ·(intro w hSw; (try dsimp only at hSw); go_simp; first | done | with_reducible rfl)
       try simp only [Act.put, sT, sZ, sS]
       refine tk1 6 ⟨some 18, _, _, _, _, _⟩ ?_ rfl hH0 ?_ ?_
       rotate_left
       ·(intro w hSw; (try dsimp only at hSw); go_simp; first | done | with_reducible rfl)
       try simp only [Act.put, sT, sZ, sS]
       refine tk1 7 ⟨some 19, _, _, _, _, _⟩ ?_ rfl hH0 ?_ ?_
       rotate_left
       ·(intro w hSw; (try dsimp only at hSw); go_simp; first | done | with_reducible rfl)
       try simp only [Act.put, sT, sZ, sS]
       refine tk1 8 ⟨some 20, _, _, _, _, _⟩ ?_ rfl hH0 ?_ ?_
       rotate_left
       ·(intro w hSw; (try dsimp only at hSw); go_simp; first | done | with_reducible rfl)
       try simp only [Act.put, sT, sZ, sS]
       refine tk1 9 ⟨some 21, _, _, _, _, _⟩ ?_ rfl hH0 ?_ ?_
       rotate_left
       ·(intro w hSw; (try dsimp only at hSw); go_simp; first | done | with_reducible rfl)
       try simp only [Act.put, sT, sZ, sS]
       refine tk1 10 ⟨some 22, _, _, _, _, _⟩ ?_ rfl hH0 ?_ ?_
       rotate_left
       ·(intro w hSw; (try dsimp only at hSw); go_simp; first | done | with_reducible rfl)
       try simp only [Act.put, sT, sZ, sS]
       refine tk1 11 ⟨some 23, _, _, _, _, _⟩ ?_ rfl hH0 ?_ ?_
       rotate_left
       ·(intro w hSw; (try dsimp only at hSw); go_simp; first | done | with_reducible rfl)
       try simp only [Act.put, sT, sZ, sS]
       refine tk1 12 ⟨some 24, _, _, _, _, _⟩ ?_ rfl hH0 ?_ ?_
       rotate_left
       ·(intro w hSw; (try dsimp only at hSw); go_simp; first | done | with_reducible rfl)
       try simp only [Act.put, sT, sZ, sS]
       refine tk1 13 ⟨some 25, _, _, _, _, _⟩ ?_ rfl hH0 ?_ ?_
       rotate_left
       ·(intro w hSw; (try dsimp only at hSw); go_simp; first | done | with_reducible rfl)
       try simp only [Act.put, sT, sZ, sS]
       refine tk1 14 ⟨some 26, _, _, _, _, _⟩ ?_ rfl hH0 ?_ ?_
       rotate_left
       ·(intro w hSw; (try dsimp only at hSw); go_simp; first | done | with_reducible rfl)
       try simp only [Act.put, sT, sZ, sS]
       refine tk1 15 ⟨some 27, _, _, _, _, _⟩ ?_ rfl hH0 ?_ ?_
       rotate_left
       ·(intro w hSw; (try dsimp only at hSw); go_simp; first | done | with_reducible rfl)
       try simp only [Act.put, sT, sZ, sS]
       refine tk1 16 ⟨some 28, _, _, _, _, _⟩ ?_ rfl hH0 ?_ ?_
       rotate_left
       ·(intro w hSw; (try dsimp only at hSw); go_simp; first | done | with_reducible rfl)
       try simp only [Act.put, sT, sZ, sS]
       refine tk1 17 ⟨some 29, _, _, _, _, _⟩ ?_ rfl hH0 ?_ ?_
       rotate_left
       ·(intro w hSw; (try dsimp only at hSw); go_simp; first | done | with_reducible rfl)
       try simp only [Act.put, sT, sZ, sS]
       refine tk1 18 ⟨some 30, _, _, _, _, _⟩ ?_ rfl hH0 ?_ ?_
       rotate_left
       ·(intro w hSw; (try dsimp only at hSw); go_simp; first | done | with_reducible rfl)
       try simp only [Act.put, sT, sZ, sS]
       refine tk1 19 ⟨some 31, _, _, _, _, _⟩ ?_ rfl hH0 ?_ ?_
       rotate_left
       ·(intro w hSw; (try dsimp only at hSw); have hcw := hcv w hSw; go_simp; first | done | with_reducible rfl)
       try simp only [Act.put, sT, sZ, sS]
       refine tk1 20 ⟨some 32, _, _, _, _, _⟩ ?_ rfl hH0 ?_ ?_
       rotate_left
       ·(intro w hSw; (try dsimp only at hSw); go_simp; first | done | with_reducible rfl)
       try simp only [Act.put, sT, sZ, sS]
       refine wpAnyH_ready (rs := [21]) (by as_aux_lemma => kernel_rfl) (by simp) ?_
       refine AllReadyH.cons (o := ⟨some 33, _, _, _, _, _⟩) rfl (fun K hK => ?_) ?_
       ·rw [if_pos (by as_aux_lemma => kernel_rfl)]
        go_simp
        refine (HHD.out _).mono ?_
        rintro e wx ⟨hbx, ro, Bo, rfl, hBo, how⟩
        have hcv2 := run_str_whole how.read
        rw [← HS2.out] at hcv2
        refine hK.out _ _ (hH0.trans (hbx.mono hH0.size)) (fun hH1 => ?_)
        clear hK K
        try simp only [sT, sZ, sS]
        refine wpAnyH_ready (rs := [22]) (by as_aux_lemma => kernel_rfl) (by simp) ?_
        refine AllReadyH.cons (o := ⟨some 34, _, _, _, _, _⟩) rfl (fun K hK => ?_) ?_
        ·rw [if_pos (by as_aux_lemma => kernel_rfl)]
         go_simp
         refine hK.out _ _ (hH1) (fun hH2 => ?_)
         clear hK K
         try simp only [sT, sZ, sS]
         refine tk1 23 ⟨some 35, _, _, _, _, _⟩ ?_ rfl hH2 ?_ ?_
         rotate_left
         ·(intro w hSw; (try dsimp only at hSw); go_simp; first | done | with_reducible rfl)
         try simp only [Act.put, sT, sZ, sS]
         refine tk1 24 ⟨some 36, _, _, _, _, _⟩ ?_ rfl hH2 ?_ ?_
         rotate_left
         ·(intro w hSw; (try dsimp only at hSw); go_simp; first | done | with_reducible rfl)
         try simp only [Act.put, sT, sZ, sS]
         refine tk1 25 ⟨some 37, _, _, _, _, _⟩ ?_ rfl hH2 ?_ ?_
         rotate_left
         ·(intro w hSw; (try dsimp only at hSw); go_simp; first | done | with_reducible rfl)
         try simp only [Act.put, sT, sZ, sS]
         refine tk1 26 ⟨some 38, _, _, _, _, _⟩ ?_ rfl hH2 ?_ ?_
         rotate_left
         ·(intro w hSw; (try dsimp only at hSw); go_simp; first | done | with_reducible rfl)
         try simp only [Act.put, sT, sZ, sS]
         refine tk1 27 ⟨some 39, _, _, _, _, _⟩ ?_ rfl hH2 ?_ ?_
         rotate_left
         ·(intro w hSw; (try dsimp only at hSw); go_simp; first | done | with_reducible rfl)
         try simp only [Act.put, sT, sZ, sS]
         refine tk1 28 ⟨some 40, _, _, _, _, _⟩ ?_ rfl hH2 ?_ ?_
         rotate_left
         ·(intro w hSw; (try dsimp only at hSw); go_simp; first | done | with_reducible rfl)
         try simp only [Act.put, sT, sZ, sS]
         refine tk1 29 ⟨some 41, _, _, _, _, _⟩ ?_ rfl hH2 ?_ ?_
         rotate_left
         ·(intro w hSw; (try dsimp only at hSw); go_simp; first | done | with_reducible rfl)
         try simp only [Act.put, sT, sZ, sS]
         refine tk1 30 ⟨some 42, _, _, _, _, _⟩ ?_ rfl hH2 ?_ ?_
         rotate_left
         ·(intro w hSw; (try dsimp only at hSw); go_simp; first | done | with_reducible rfl)
         try simp only [Act.put, sT, sZ, sS]
         refine tk1 31 ⟨some 43, _, _, _, _, _⟩ ?_ rfl hH2 ?_ ?_
         rotate_left
         ·(intro w hSw; (try dsimp only at hSw); go_simp; first | done | with_reducible rfl)
         try simp only [Act.put, sT, sZ, sS]
         refine tk1 32 ⟨some 44, _, _, _, _, _⟩ ?_ rfl hH2 ?_ ?_
         rotate_left
         ·(intro w hSw; (try dsimp only at hSw); go_simp; first | done | with_reducible rfl)
         try simp only [Act.put, sT, sZ, sS]
         refine wpAnyH_done (by as_aux_lemma => kernel_rfl) ?_ _
         go_wp2_with fail
         go_ret2
         exact ⟨HB1.out.trans (hH2.mono HB1.out.size), _, by rw [HQ.out]; rfl, by rw [HQ.out]; exact OwnU.nil _ _⟩
        exact AllReadyH.nil
       exact AllReadyH.nil
     ·have b5 : ((N : Int) < (bg : Int)) = False := eq_false (by omega)
      have b5n : (N < bg) = False := eq_false h5
      have HBF2 : Hid (badFont l = false) := Lib.hid (by rw [HBF.out]; simp [h4]; omega)
      have HBN : Hid (bg ≤ N) := Lib.hid (by omega)
      clear h1 h2 h3 h4 h5 hbg hn16 hS1 hS2
      refine wp_region_held_drew (S := fun w' => Below w1.heap.size w1 w') (by as_aux_lemma => kernel_rfl) ((Below.refl _ w1).drew) (fun hH0 => ?_)
      change wpAnyH _ _ _ _ _ 33 #[false, false, false, false, false, false, false, false, false, false, false, false, false, false, false, false, false, false, false, false, false, false, false, false, false, false, false, false, false, false, false, false, false] _ _
      refine tk1 0 ⟨some 12, _, _, _, _, _⟩ ?_ rfl hH0 ?_ ?_
      rotate_left
      ·(intro w hSw; (try dsimp only at hSw); go_simp; first | done | with_reducible rfl)
      try simp only [Act.put, sT, sZ, sS]
      refine tk1 1 ⟨some 13, _, _, _, _, _⟩ ?_ rfl hH0 ?_ ?_
      rotate_left
      ·(intro w hSw; (try dsimp only at hSw); go_simp; first | done | with_reducible rfl)
      try simp only [Act.put, sT, sZ, sS]
      refine tk1 2 ⟨some 14, _, _, _, _, _⟩ ?_ rfl hH0 ?_ ?_
      rotate_left
      ·(intro w hSw; (try dsimp only at hSw); go_simp; first | done | with_reducible rfl)
      try simp only [Act.put, sT, sZ, sS]
      refine tk1 3 ⟨some 15, _, _, _, _, _⟩ ?_ rfl hH0 ?_ ?_
      rotate_left
      ·(intro w hSw; (try dsimp only at hSw); go_simp; first | done | with_reducible rfl)
      try simp only [Act.put, sT, sZ, sS]
      refine tk1 4 ⟨some 16, _, _, _, _, _⟩ ?_ rfl hH0 ?_ ?_
      rotate_left
      ·(intro w hSw; (try dsimp only at hSw); go_simp; first | done | with_reducible rfl)
      try simp only [Act.put, sT, sZ, sS]
      refine tk1 5 ⟨some 17, _, _, _, _, _⟩ ?_ rfl hH0 ?_ ?_
      rotate_left
      ·(intro w hSw; (try dsimp only at hSw); go_simp; first | done | with_reducible rfl)
      try simp only [Act.put, sT, sZ, sS]
      refine tk1 6 ⟨some 18, _, _, _, _, _⟩ ?_ rfl hH0 ?_ ?_
      rotate_left
      ·(intro w hSw; (try dsimp only at hSw); go_simp; first | done | with_reducible rfl)
      try simp only [Act.put, sT, sZ, sS]
      refine tk1 7 ⟨some 19, _, _, _, _, _⟩ ?_ rfl hH0 ?_ ?_
      rotate_left
      ·(intro w hSw; (try dsimp only at hSw); go_simp; first | done | with_reducible rfl)
      try simp only [Act.put, sT, sZ, sS]
      refine tk1 8 ⟨some 20, _, _, _, _, _⟩ ?_ rfl hH0 ?_ ?_
      rotate_left
      ·(intro w hSw; (try dsimp only at hSw); go_simp; first | done | with_reducible rfl)
      try simp only [Act.put, sT, sZ, sS]
      refine tk1 9 ⟨some 21, _, _, _, _, _⟩ ?_ rfl hH0 ?_ ?_
      rotate_left
      ·(intro w hSw; (try dsimp only at hSw); go_simp; first | done | with_reducible rfl)
      try simp only [Act.put, sT, sZ, sS]
      refine tk1 10 ⟨some 22, _, _, _, _, _⟩ ?_ rfl hH0 ?_ ?_
      rotate_left
      ·(intro w hSw; (try dsimp only at hSw); go_simp; first | done | with_reducible rfl)
      try simp only [Act.put, sT, sZ, sS]
      refine tk1 11 ⟨some 23, _, _, _, _, _⟩ ?_ rfl hH0 ?_ ?_
      rotate_left
      ·(intro w hSw; (try dsimp only at hSw); go_simp; first | done | with_reducible rfl)
      try simp only [Act.put, sT, sZ, sS]
      refine tk1 12 ⟨some 24, _, _, _, _, _⟩ ?_ rfl hH0 ?_ ?_
      rotate_left
      ·(intro w hSw; (try dsimp only at hSw); go_simp; first | done | with_reducible rfl)
      try simp only [Act.put, sT, sZ, sS]
      refine tk1 13 ⟨some 25, _, _, _, _, _⟩ ?_ rfl hH0 ?_ ?_
      rotate_left
      ·(intro w hSw; (try dsimp only at hSw); go_simp; first | done | with_reducible rfl)
      try simp only [Act.put, sT, sZ, sS]
      refine tk1 14 ⟨some 26, _, _, _, _, _⟩ ?_ rfl hH0 ?_ ?_
      rotate_left
      ·(intro w hSw; (try dsimp only at hSw); go_simp; first | done | with_reducible rfl)
      try simp only [Act.put, sT, sZ, sS]
      refine tk1 15 ⟨some 27, _, _, _, _, _⟩ ?_ rfl hH0 ?_ ?_
      rotate_left
      ·(intro w hSw; (try dsimp only at hSw); go_simp; first | done | with_reducible rfl)
      try simp only [Act.put, sT, sZ, sS]
      refine tk1 16 ⟨some 28, _, _, _, _, _⟩ ?_ rfl hH0 ?_ ?_
      rotate_left
      ·(intro w hSw; (try dsimp only at hSw); go_simp; first | done | with_reducible rfl)
      try simp only [Act.put, sT, sZ, sS]
      refine tk1 17 ⟨some 29, _, _, _, _, _⟩ ?_ rfl hH0 ?_ ?_
      rotate_left
      ·(intro w hSw; (try dsimp only at hSw); go_simp; first | done | with_reducible rfl)
      try simp only [Act.put, sT, sZ, sS]
      refine tk1 18 ⟨some 30, _, _, _, _, _⟩ ?_ rfl hH0 ?_ ?_
      rotate_left
      ·(intro w hSw; (try dsimp only at hSw); go_simp; first | done | with_reducible rfl)
      try simp only [Act.put, sT, sZ, sS]
      refine tk1 19 ⟨some 31, _, _, _, _, _⟩ ?_ rfl hH0 ?_ ?_
      rotate_left
      ·(intro w hSw; (try dsimp only at hSw); have hcw := hcv w hSw; go_simp; first | done | with_reducible rfl)
      try simp only [Act.put, sT, sZ, sS]
      refine tk1 20 ⟨some 32, _, _, _, _, _⟩ ?_ rfl hH0 ?_ ?_
      rotate_left
      ·(intro w hSw; (try dsimp only at hSw); go_simp; first | done | with_reducible rfl)
      try simp only [Act.put, sT, sZ, sS]
      refine wpAnyH_ready (rs := [21]) (by as_aux_lemma => kernel_rfl) (by simp) ?_
      refine AllReadyH.cons (o := ⟨some 33, _, _, _, _, _⟩) rfl (fun K hK => ?_) ?_
      ·rw [if_pos (by as_aux_lemma => kernel_rfl)]
       go_simp
       refine (HHD.out _).mono ?_
       rintro e wx ⟨hbx, ro, Bo, rfl, hBo, how⟩
       have hcv2 := run_str_whole how.read
       rw [← HS2.out] at hcv2
       refine hK.out _ _ (hH0.trans (hbx.mono hH0.size)) (fun hH1 => ?_)
       clear hK K
       try simp only [sT, sZ, sS]
       refine wpAnyH_ready (rs := [22]) (by as_aux_lemma => kernel_rfl) (by simp) ?_
       refine AllReadyH.cons (o := ⟨some 34, _, _, _, _, _⟩) rfl (fun K hK => ?_) ?_
       ·rw [if_pos (by as_aux_lemma => kernel_rfl)]
        go_simp
        refine hK.out _ _ (hH1) (fun hH2 => ?_)
        clear hK K
        try simp only [sT, sZ, sS]
        refine tk1 23 ⟨some 35, _, _, _, _, _⟩ ?_ rfl hH2 ?_ ?_
        rotate_left
        ·(intro w hSw; (try dsimp only at hSw); go_simp; first | done | with_reducible rfl)
        try simp only [Act.put, sT, sZ, sS]
        refine tk1 24 ⟨some 36, _, _, _, _, _⟩ ?_ rfl hH2 ?_ ?_
        rotate_left
        ·(intro w hSw; (try dsimp only at hSw); go_simp; first | done | with_reducible rfl)
        try simp only [Act.put, sT, sZ, sS]
        refine tk1 25 ⟨some 37, _, _, _, _, _⟩ ?_ rfl hH2 ?_ ?_
        rotate_left
        ·(intro w hSw; (try dsimp only at hSw); go_simp; first | done | with_reducible rfl)
        try simp only [Act.put, sT, sZ, sS]
        refine tk1 26 ⟨some 38, _, _, _, _, _⟩ ?_ rfl hH2 ?_ ?_
        rotate_left
        ·(intro w hSw; (try dsimp only at hSw); go_simp; first | done | with_reducible rfl)
        try simp only [Act.put, sT, sZ, sS]
        refine tk1 27 ⟨some 39, _, _, _, _, _⟩ ?_ rfl hH2 ?_ ?_
        rotate_left
        ·(intro w hSw; (try dsimp only at hSw); go_simp; first | done | with_reducible rfl)
        try simp only [Act.put, sT, sZ, sS]
        refine tk1 28 ⟨some 40, _, _, _, _, _⟩ ?_ rfl hH2 ?_ ?_
        rotate_left
        ·(intro w hSw; (try dsimp only at hSw); go_simp; first | done | with_reducible rfl)
        try simp only [Act.put, sT, sZ, sS]
        refine tk1 29 ⟨some 41, _, _, _, _, _⟩ ?_ rfl hH2 ?_ ?_
        rotate_left
        ·(intro w hSw; (try dsimp only at hSw); go_simp; first | done | with_reducible rfl)
        try simp only [Act.put, sT, sZ, sS]
        refine tk1 30 ⟨some 42, _, _, _, _, _⟩ ?_ rfl hH2 ?_ ?_
        rotate_left
        ·(intro w hSw; (try dsimp only at hSw); go_simp; first | done | with_reducible rfl)
        try simp only [Act.put, sT, sZ, sS]
        refine tk1 31 ⟨some 43, _, _, _, _, _⟩ ?_ rfl hH2 ?_ ?_
        rotate_left
        ·(intro w hSw; (try dsimp only at hSw); go_simp; first | done | with_reducible rfl)
        try simp only [Act.put, sT, sZ, sS]
        refine tk1 32 ⟨some 44, _, _, _, _, _⟩ ?_ rfl hH2 ?_ ?_
        rotate_left
        ·(intro w hSw; (try dsimp only at hSw); go_simp; first | done | with_reducible rfl)
        try simp only [Act.put, sT, sZ, sS]
        refine wpAnyH_done (by as_aux_lemma => kernel_rfl) ?_ _
        have HBL := Lib.hid (HB1.out.trans (hH2.mono HB1.out.size))
        clear hH2 hsl hcv hcv2 hbx how hBo
        obtain ⟨g, off, rfl, hg, hcell⟩ := HV.out.cells (by intro h; have := HN.out; rw [h] at this; simp at this; have := HBGE.out; have := HBN.out; omega)
        have HG := Lib.hid hg
        have HCELL := Lib.hid hcell
        clear hg hcell
        go_wp2_with fail
        go_loopg [5, 6] n (fun k vl vi wr => URel w l n k vl vi wr)
        case atStart => exact ⟨_, 0, [], rfl, by omega, rfl, OwnU.nil _ _, rfl, HBL.out⟩
        case round =>
         rename World => wo
         obtain ⟨kk, hkk⟩ : ∃ kk, kk = gk := ⟨_, rfl⟩
         have HKK := Lib.hid hkk
         clear hkk
         obtain ⟨vr, i, ts, rfl, hik, rfl, how, htab, hb⟩ := hrel
         have HOW := Lib.hid how
         have HTAB := Lib.hid htab
         have HBW := Lib.hid hb
         have HIK := Lib.hid hik
         have hlen : ts.length = i := by rw [tabsL_len l n i ts htab]; simp
         have h4 : ∀ t ∈ ts, t.1.length = 4 := by
          rw [tabsL_len l n i ts htab]
          intro t ht
          obtain ⟨j, _, rfl⟩ := List.mem_map.1 ht
          rfl
         have HLEN := Lib.hid hlen
         have H4 := Lib.hid h4
         clear how htab hik h4 hb
         by_cases hi : i = n
         ·have bi : ((i : Int) < (n : Int)) = False := eq_false (by omega)
          have bin : (i < n) = False := eq_false (by omega)
          have HRES : Hid (q = (ts, 0)) := Lib.hid (HTS.out.2.2 HBF2.out ts (by have := HTAB.out; rw [hi] at this; exact this))
          clear hi hlen
          go_wp2_with fail
          go_ret2
          exact ⟨HBW.out, _, by rw [HRES.out]; rfl, by rw [HRES.out]; exact HOW.out⟩
         ·have bi : ((i : Int) < (n : Int)) = True := eq_true (by have := HIK.out; omega)
          have bin : (i < n) = True := eq_true (by have := HIK.out; omega)
          have hin : i < n := by have := HIK.out; omega
          obtain ⟨AT, cT, hvr⟩ := (ownU_cases HOW.out).1
          rw [hlen] at hvr
          subst hvr
          obtain ⟨i16, hi16⟩ : ∃ x, x = 16 * i := ⟨_, rfl⟩
          obtain ⟨at_, hat⟩ : ∃ x, x = 12 + i16 := ⟨_, rfl⟩
          obtain ⟨a1, ha1⟩ : ∃ x, x = at_ + 1 := ⟨_, rfl⟩
          obtain ⟨a2, ha2⟩ : ∃ x, x = at_ + 2 := ⟨_, rfl⟩
          obtain ⟨a3, ha3⟩ : ∃ x, x = at_ + 3 := ⟨_, rfl⟩
          obtain ⟨at4, hat4⟩ : ∃ x, x = at_ + 4 := ⟨_, rfl⟩
          obtain ⟨at8, hat8⟩ : ∃ x, x = at_ + 8 := ⟨_, rfl⟩
          obtain ⟨atc, hatc⟩ : ∃ x, x = at_ + 12 := ⟨_, rfl⟩
          have hN16 : at_ + 16 ≤ N := by have := HBGE.out; have := HBN.out; omega
          have hN6 : N ≤ 1000000 := by have := HN.out; have := HL.out; omega
          have q3 : IntKind.i64.wrap (16 * (i : Int)) = (i16 : Int) := by rw [IntKind.wrap_i64]; omega
          have q4 : IntKind.i64.wrap (12 + (i16 : Int)) = (at_ : Int) := by rw [IntKind.wrap_i64]; omega
          have q5 : IntKind.i64.wrap ((at_ : Int) + 1) = (a1 : Int) := by rw [IntKind.wrap_i64]; omega
          have q6 : IntKind.i64.wrap ((at_ : Int) + 2) = (a2 : Int) := by rw [IntKind.wrap_i64]; omega
          have q7 : IntKind.i64.wrap ((at_ : Int) + 3) = (a3 : Int) := by rw [IntKind.wrap_i64]; omega
          have q8 : IntKind.i64.wrap ((at_ : Int) + 4) = (at4 : Int) := by rw [IntKind.wrap_i64]; omega
          have q9 : IntKind.i64.wrap ((at_ : Int) + 8) = (at8 : Int) := by rw [IntKind.wrap_i64]; omega
          have q10 : IntKind.i64.wrap ((at_ : Int) + 12) = (atc : Int) := by rw [IntKind.wrap_i64]; omega
          have q11 : IntKind.i64.wrap ((i : Int) + 1) = ((i + 1 : Nat) : Int) := by rw [IntKind.wrap_i64]; omega
          have z0 : (0 : Int) ≤ (at_ : Int) := Int.natCast_nonneg _
          have z1 : (0 : Int) ≤ (a1 : Int) := Int.natCast_nonneg _
          have z2 : (0 : Int) ≤ (a2 : Int) := Int.natCast_nonneg _
          have z3 : (0 : Int) ≤ (a3 : Int) := Int.natCast_nonneg _
          have y0 : (at_ : Int) < (N : Int) := by omega
          have y1 : (a1 : Int) < (N : Int) := by omega
          have y2 : (a2 : Int) < (N : Int) := by omega
          have y3 : (a3 : Int) < (N : Int) := by omega
          have hNl := HN.out
          have hx : ∀ j, j < N → wo.cell? ⟨g, off + j, none⟩ = some (.int .u8 (l.getD j 0)) := fun j hj => by
           have h := HCELL.out j (by omega)
           rw [HBW.out.cell (by exact HG.out), h]
           rw [List.getD_eq_getElem?_getD, List.getElem?_eq_getElem (by omega)]; rfl
          obtain ⟨x0, hx0⟩ : ∃ x, x = l.getD at_ 0 := ⟨_, rfl⟩
          obtain ⟨x1, hx1⟩ : ∃ x, x = l.getD a1 0 := ⟨_, rfl⟩
          obtain ⟨x2, hx2⟩ : ∃ x, x = l.getD a2 0 := ⟨_, rfl⟩
          obtain ⟨x3, hx3⟩ : ∃ x, x = l.getD a3 0 := ⟨_, rfl⟩
          have c0 := hx at_ (by omega)
          have c1 := hx a1 (by omega)
          have c2 := hx a2 (by omega)
          have c3 := hx a3 (by omega)
          rw [← hx0] at c0
          rw [← hx1] at c1
          rw [← hx2] at c2
          rw [← hx3] at c3
          have hpb := numAt_b HA.out (at8 : Int) 4
          have hmb := numAt_b HA.out (atc : Int) 4
          obtain ⟨p, hp⟩ : ∃ x : Nat, (x : Int) = numAt l (at8 : Int) 4 := ⟨(numAt l (at8 : Int) 4).toNat, by omega⟩
          obtain ⟨m, hm⟩ : ∃ x : Nat, (x : Int) = numAt l (atc : Int) 4 := ⟨(numAt l (atc : Int) 4).toNat, by omega⟩
          rw [← hp] at hpb
          rw [← hm] at hmb
          have HTA : Hid (tabAt l i = ([x0, x1, x2, x3], (p : Int), (m : Int))) := Lib.hid (by
           unfold tabAt
           rw [hx0, hx1, hx2, hx3, hp, hm, hat8, hatc, ha1, ha2, ha3, hat, hi16])
          have HLp : Hid (∀ wx, Below wo.heap.size wo wx → Calls Try.prog 27 #[.slice (some ⟨g, off, none⟩) N c, .int .i64 (at8 : Int)] wx fun e w' => e = .returned (.int .i64 (p : Int)) ∧ Below wx.heap.size wx w') := Lib.hid (fun wx hx => by
           rw [hp]
           exact l_any wx _ l (HV.out.below (HBW.out.trans (hx.mono HBW.out.size))) HA.out HL.out _)
          have HLm : Hid (∀ wx, Below wo.heap.size wo wx → Calls Try.prog 27 #[.slice (some ⟨g, off, none⟩) N c, .int .i64 (atc : Int)] wx fun e w' => e = .returned (.int .i64 (m : Int)) ∧ Below wx.heap.size wx w') := Lib.hid (fun wx hx => by
           rw [hm]
           exact l_any wx _ l (HV.out.below (HBW.out.trans (hx.mono HBW.out.size))) HA.out HL.out _)
          have hgl : g < wo.heap.size := Nat.lt_of_lt_of_le HG.out HBW.out.size
          have HGL := Lib.hid hgl
          have HFX := Lib.hid (And.intro hat (And.intro hi16 (And.intro hN16 (And.intro hpb hmb))))
          have HIN := Lib.hid hin
          have HHI := Lib.hid hi
          have HAT4 := Lib.hid hat4
          clear hi hin hi16 hat hat4 hat8 hatc ha1 ha2 ha3 hN16 hN6 hNl hx hx0 hx1 hx2 hx3 hp hm hpb hmb hgl hlen
          go_upto_region 9 with fail
          go_cut [8] from 53 to 187 (fun s8 wx => ∃ X, s8 = .pointer (some ⟨X, 0, none⟩) ∧ wo.heap.size ≤ X ∧ X < wx.heap.size ∧ wx.heap[X]? = some (.cells #[.int .u8 x0, .int .u8 x1, .int .u8 x2, .int .u8 x3, .int .i64 (p : Int), .int .i64 (m : Int)] 62 (0, 0)) ∧ Below wo.heap.size wo wx)
          case first =>
           refine wp_region_held_drew (S := fun w' => Below wo.heap.size wo w' ∧ w'.cell? ⟨g, off + at_, none⟩ = some (.int .u8 x0) ∧ w'.cell? ⟨g, off + a1, none⟩ = some (.int .u8 x1) ∧ w'.cell? ⟨g, off + a2, none⟩ = some (.int .u8 x2) ∧ w'.cell? ⟨g, off + a3, none⟩ = some (.int .u8 x3)) (by as_aux_lemma => kernel_rfl) (⟨(Below.refl _ wo).drew, c0, c1, c2, c3⟩) (fun hH0 => ?_)
           change wpAnyH _ _ _ _ _ 31 #[false, false, false, false, false, false, false, false, false, false, false, false, false, false, false, false, false, false, false, false, false, false, false, false, false, false, false, false, false, false, false] _ _
           refine tk1 0 ⟨some 53, _, _, _, _, _⟩ ?_ rfl hH0 ?_ ?_
           rotate_left
           ·(intro w hSw; (try dsimp only at hSw); go_simp; first | done | with_reducible rfl)
           try simp only [Act.put, sT, sZ, sS]
           refine tk1 1 ⟨some 54, _, _, _, _, _⟩ ?_ rfl hH0 ?_ ?_
           rotate_left
           ·(intro w hSw; (try dsimp only at hSw); go_simp; first | done | with_reducible rfl)
           try simp only [Act.put, sT, sZ, sS]
           refine tk1 2 ⟨some 55, _, _, _, _, _⟩ ?_ rfl hH0 ?_ ?_
           rotate_left
           ·(intro w hSw; (try dsimp only at hSw); go_simp; first | done | with_reducible rfl)
           try simp only [Act.put, sT, sZ, sS]
           refine tk1 3 ⟨some 56, _, _, _, _, _⟩ ?_ rfl hH0 ?_ ?_
           rotate_left
           ·(intro w hSw; (try dsimp only at hSw); go_simp; first | done | with_reducible rfl)
           try simp only [Act.put, sT, sZ, sS]
           refine tk1 4 ⟨some 57, _, _, _, _, _⟩ ?_ rfl hH0 ?_ ?_
           rotate_left
           ·(intro w hSw; (try dsimp only at hSw); go_simp; first | done | with_reducible rfl)
           try simp only [Act.put, sT, sZ, sS]
           refine tk1 5 ⟨some 58, _, _, _, _, _⟩ ?_ rfl hH0 ?_ ?_
           rotate_left
           ·(intro w hSw; (try dsimp only at hSw); go_simp; first | done | with_reducible rfl)
           try simp only [Act.put, sT, sZ, sS]
           refine tk1 6 ⟨some 59, _, _, _, _, _⟩ ?_ rfl hH0 ?_ ?_
           rotate_left
           ·(intro w hSw; (try dsimp only at hSw); go_simp; first | done | with_reducible rfl)
           try simp only [Act.put, sT, sZ, sS]
           refine tk1 7 ⟨some 60, _, _, _, _, _⟩ ?_ rfl hH0 ?_ ?_
           rotate_left
           ·(intro w hSw; (try dsimp only at hSw); go_simp; first | done | with_reducible rfl)
           try simp only [Act.put, sT, sZ, sS]
           refine tk1 8 ⟨some 61, _, _, _, _, _⟩ ?_ rfl hH0 ?_ ?_
           rotate_left
           ·(intro w hSw; (try dsimp only at hSw); go_simp; first | done | with_reducible rfl)
           try simp only [Act.put, sT, sZ, sS]
           refine tk1 9 ⟨some 62, _, _, _, _, _⟩ ?_ rfl hH0 ?_ ?_
           rotate_left
           ·(intro w hSw; (try dsimp only at hSw); go_simp; first | done | with_reducible rfl)
           try simp only [Act.put, sT, sZ, sS]
           refine tk1 10 ⟨some 63, _, _, _, _, _⟩ ?_ rfl hH0 ?_ ?_
           rotate_left
           ·(intro w hSw; (try dsimp only at hSw); go_simp; first | done | with_reducible rfl)
           try simp only [Act.put, sT, sZ, sS]
           refine tk1 11 ⟨some 64, _, _, _, _, _⟩ ?_ rfl hH0 ?_ ?_
           rotate_left
           ·(intro w hSw; (try dsimp only at hSw); go_simp; first | done | with_reducible rfl)
           try simp only [Act.put, sT, sZ, sS]
           refine tk1 12 ⟨some 65, _, _, _, _, _⟩ ?_ rfl hH0 ?_ ?_
           rotate_left
           ·(intro w hSw; (try dsimp only at hSw); go_simp; first | done | with_reducible rfl)
           try simp only [Act.put, sT, sZ, sS]
           refine tk1 13 ⟨some 66, _, _, _, _, _⟩ ?_ rfl hH0 ?_ ?_
           rotate_left
           ·(intro w hSw; (try dsimp only at hSw); go_simp; first | done | with_reducible rfl)
           try simp only [Act.put, sT, sZ, sS]
           refine tk1 14 ⟨some 67, _, _, _, _, _⟩ ?_ rfl hH0 ?_ ?_
           rotate_left
           ·(intro w hSw; (try dsimp only at hSw); go_simp; first | done | with_reducible rfl)
           try simp only [Act.put, sT, sZ, sS]
           refine tk1 15 ⟨some 68, _, _, _, _, _⟩ ?_ rfl hH0 ?_ ?_
           rotate_left
           ·(intro w hSw; (try dsimp only at hSw); go_simp; first | done | with_reducible rfl)
           try simp only [Act.put, sT, sZ, sS]
           refine tk1 16 ⟨some 69, _, _, _, _, _⟩ ?_ rfl hH0 ?_ ?_
           rotate_left
           ·(intro w hSw; (try dsimp only at hSw); go_simp; first | done | with_reducible rfl)
           try simp only [Act.put, sT, sZ, sS]
           refine tk1 17 ⟨some 70, _, _, _, _, _⟩ ?_ rfl hH0 ?_ ?_
           rotate_left
           ·(intro w hSw; (try dsimp only at hSw); go_simp; first | done | with_reducible rfl)
           try simp only [Act.put, sT, sZ, sS]
           refine tk1 18 ⟨some 71, _, _, _, _, _⟩ ?_ rfl hH0 ?_ ?_
           rotate_left
           ·(intro w hSw; (try dsimp only at hSw); go_simp; first | done | with_reducible rfl)
           try simp only [Act.put, sT, sZ, sS]
           refine tk1 19 ⟨some 72, _, _, _, _, _⟩ ?_ rfl hH0 ?_ ?_
           rotate_left
           ·(intro w hSw; (try dsimp only at hSw); go_simp; first | done | with_reducible rfl)
           try simp only [Act.put, sT, sZ, sS]
           refine tk1 20 ⟨some 73, _, _, _, _, _⟩ ?_ rfl hH0 ?_ ?_
           rotate_left
           ·(intro w hSw; (try dsimp only at hSw); go_simp; first | done | with_reducible rfl)
           try simp only [Act.put, sT, sZ, sS]
           refine tk1 21 ⟨some 74, _, _, _, _, _⟩ ?_ rfl hH0 ?_ ?_
           rotate_left
           ·(intro w hSw; (try dsimp only at hSw); go_simp; first | done | with_reducible rfl)
           try simp only [Act.put, sT, sZ, sS]
           refine tk1 22 ⟨some 75, _, _, _, _, _⟩ ?_ rfl hH0 ?_ ?_
           rotate_left
           ·(intro w hSw; (try dsimp only at hSw); go_simp; first | done | with_reducible rfl)
           try simp only [Act.put, sT, sZ, sS]
           refine tk1 24 ⟨some 77, _, _, _, _, _⟩ ?_ rfl hH0 ?_ ?_
           rotate_left
           ·(intro w hSw; (try dsimp only at hSw); go_simp; first | done | with_reducible rfl)
           try simp only [Act.put, sT, sZ, sS]
           refine tk1 25 ⟨some 78, _, _, _, _, _⟩ ?_ rfl hH0 ?_ ?_
           rotate_left
           ·(intro w hSw; (try dsimp only at hSw); go_simp; first | done | with_reducible rfl)
           try simp only [Act.put, sT, sZ, sS]
           refine tk1 26 ⟨some 79, _, _, _, _, _⟩ ?_ rfl hH0 ?_ ?_
           rotate_left
           ·(intro w hSw; (try dsimp only at hSw); go_simp; first | done | with_reducible rfl)
           try simp only [Act.put, sT, sZ, sS]
           refine wpAnyH_ready (rs := [23, 29]) (by as_aux_lemma => kernel_rfl) (by simp) ?_
           refine AllReadyH.cons (o := ⟨some 76, _, _, _, _, _⟩) rfl (fun K hK => ?_) ?_
           ·rw [if_pos (by as_aux_lemma => kernel_rfl)]
            go_simp
            refine (HLp.out _ hH0.1).mono ?_
            rintro e wx23 ⟨rfl, hbx23⟩
            refine hK.out _ _ (⟨hH0.1.trans (hbx23.mono hH0.1.size), cellsAt_below hH0.2.1 hbx23, cellsAt_below hH0.2.2.1 hbx23, cellsAt_below hH0.2.2.2.1 hbx23, cellsAt_below hH0.2.2.2.2 hbx23⟩) (fun hH1 => ?_)
            clear hK K
            try simp only [sT, sZ, sS]
            refine wpAnyH_ready (rs := [27, 29]) (by as_aux_lemma => kernel_rfl) (by simp) ?_
            refine AllReadyH.cons (o := ⟨some 80, _, _, _, _, _⟩) rfl (fun K hK => ?_) ?_
            ·rw [if_pos (by as_aux_lemma => kernel_rfl)]
             go_simp
             refine (HLm.out _ hH1.1).mono ?_
             rintro e wx27 ⟨rfl, hbx27⟩
             refine hK.out _ _ (⟨hH1.1.trans (hbx27.mono hH1.1.size), cellsAt_below hH1.2.1 hbx27, cellsAt_below hH1.2.2.1 hbx27, cellsAt_below hH1.2.2.2.1 hbx27, cellsAt_below hH1.2.2.2.2 hbx27⟩) (fun hH2 => ?_)
             clear hK K
             try simp only [sT, sZ, sS]
             refine tk1 28 ⟨some 81, _, _, _, _, _⟩ ?_ rfl hH2 ?_ ?_
             rotate_left
             ·(intro w hSw; (try dsimp only at hSw); go_simp; first | done | with_reducible rfl)
             try simp only [Act.put, sT, sZ, sS]
             refine wpAnyH_ready (rs := [29]) (by as_aux_lemma => kernel_rfl) (by simp) ?_
             refine AllReadyH.cons (o := ⟨some 8, _, _, _, _, _⟩) rfl (fun K hK => ?_) ?_
             ·rw [if_pos (by as_aux_lemma => kernel_rfl)]
              go_simp
              have hax : (wx27.alloc (.cells #[.int .u8 0, .int .u8 0, .int .u8 0, .int .u8 0, .int .i64 0, .int .i64 0] 62)).heap[wx27.heap.size]? = some (.cells #[.int .u8 0, .int .u8 0, .int .u8 0, .int .u8 0, .int .i64 0, .int .i64 0] 62 (0, 0)) := heap_alloc_new _ _
              have hal : wx27.heap.size < (wx27.alloc (.cells #[.int .u8 0, .int .u8 0, .int .u8 0, .int .u8 0, .int .i64 0, .int .i64 0] 62)).heap.size := heap_more _ _
              have haB : wo.heap.size ≤ wx27.heap.size := hH2.1.size
              refine hK.out _ _ (⟨hH2.1.alloc hH2.1.size _, cells_alloc _ hH2.2.1, cells_alloc _ hH2.2.2.1, cells_alloc _ hH2.2.2.2.1, cells_alloc _ hH2.2.2.2.2⟩) (fun hH3 => ?_)
              clear hK K
              try simp only [sT, sZ, sS]
              refine wpAnyH_ready (rs := [30]) (by as_aux_lemma => kernel_rfl) (by simp) ?_
              refine AllReadyH.cons (o := ⟨none, _, _, _, _, _⟩) rfl (fun K hK => ?_) ?_
              ·rw [if_pos (by as_aux_lemma => kernel_rfl)]
               have hst := run_storeVar_row (P := Try.prog) _ _ 62 62 _ #[.int .u8 x0, .int .u8 x1, .int .u8 x2, .int .u8 x3, .int .i64 (p : Int), .int .i64 (m : Int)] hax (by as_aux_lemma => kernel_rfl) rfl (by simp [Value.oneCell'])
               refine wp_store_row' _ _ _ rfl _ _ rfl rfl hst ?_
               have hbs : Below wo.heap.size (wx27.alloc (.cells #[.int .u8 0, .int .u8 0, .int .u8 0, .int .u8 0, .int .i64 0, .int .i64 0] 62)) ((wx27.alloc (.cells #[.int .u8 0, .int .u8 0, .int .u8 0, .int .u8 0, .int .i64 0, .int .i64 0] 62)).setRow _ #[.int .u8 x0, .int .u8 x1, .int .u8 x2, .int .u8 x3, .int .i64 (p : Int), .int .i64 (m : Int)]) := below_setRow haB
               have hfin := setRow_heap _ _ _ #[.int .u8 x0, .int .u8 x1, .int .u8 x2, .int .u8 x3, .int .i64 (p : Int), .int .i64 (m : Int)] _ _ hax
               refine hK.out _ _ (⟨hH3.1.trans hbs, by rw [cell_setRow_other _ _ _ _ (fun e => absurd (Nat.le_trans haB (Nat.le_of_eq e.symm)) (Nat.not_le.2 HGL.out))]; exact hH3.2.1, by rw [cell_setRow_other _ _ _ _ (fun e => absurd (Nat.le_trans haB (Nat.le_of_eq e.symm)) (Nat.not_le.2 HGL.out))]; exact hH3.2.2.1, by rw [cell_setRow_other _ _ _ _ (fun e => absurd (Nat.le_trans haB (Nat.le_of_eq e.symm)) (Nat.not_le.2 HGL.out))]; exact hH3.2.2.2.1, by rw [cell_setRow_other _ _ _ _ (fun e => absurd (Nat.le_trans haB (Nat.le_of_eq e.symm)) (Nat.not_le.2 HGL.out))]; exact hH3.2.2.2.2⟩) (fun hH4 => ?_)
               clear hK K
               try simp only [sT, sZ, sS]
               refine wpAnyH_done (by as_aux_lemma => kernel_rfl) ?_ _
               go_wp2_with fail
               go_meet
               exact ⟨_, rfl, haB, (by first | exact hal | (simp; done) | (simp; exact hal)), hfin, hH4.1⟩
              exact AllReadyH.nil
             exact AllReadyH.nil
            refine AllReadyH.cons (o := ⟨some 8, _, _, _, _, _⟩) rfl (fun K hK => ?_) ?_
            ·rw [if_pos (by as_aux_lemma => kernel_rfl)]
             go_simp
             have hax : (wx23.alloc (.cells #[.int .u8 0, .int .u8 0, .int .u8 0, .int .u8 0, .int .i64 0, .int .i64 0] 62)).heap[wx23.heap.size]? = some (.cells #[.int .u8 0, .int .u8 0, .int .u8 0, .int .u8 0, .int .i64 0, .int .i64 0] 62 (0, 0)) := heap_alloc_new _ _
             have hal : wx23.heap.size < (wx23.alloc (.cells #[.int .u8 0, .int .u8 0, .int .u8 0, .int .u8 0, .int .i64 0, .int .i64 0] 62)).heap.size := heap_more _ _
             have haB : wo.heap.size ≤ wx23.heap.size := hH1.1.size
             refine hK.out _ _ (⟨hH1.1.alloc hH1.1.size _, cells_alloc _ hH1.2.1, cells_alloc _ hH1.2.2.1, cells_alloc _ hH1.2.2.2.1, cells_alloc _ hH1.2.2.2.2⟩) (fun hH5 => ?_)
             clear hK K
             try simp only [sT, sZ, sS]
             refine wpAnyH_ready (rs := [27]) (by as_aux_lemma => kernel_rfl) (by simp) ?_
             refine AllReadyH.cons (o := ⟨some 80, _, _, _, _, _⟩) rfl (fun K hK => ?_) ?_
             ·rw [if_pos (by as_aux_lemma => kernel_rfl)]
              go_simp
              refine (HLm.out _ hH5.1).mono ?_
              rintro e wx27 ⟨rfl, hbx27⟩
              have haxn := (hbx27.block _ hal).trans hax
              have haln := Nat.lt_of_lt_of_le hal hbx27.size
              clear hax hal
              have hax := haxn
              have hal := haln
              clear haxn haln
              refine hK.out _ _ (⟨hH5.1.trans (hbx27.mono hH5.1.size), cellsAt_below hH5.2.1 hbx27, cellsAt_below hH5.2.2.1 hbx27, cellsAt_below hH5.2.2.2.1 hbx27, cellsAt_below hH5.2.2.2.2 hbx27⟩) (fun hH6 => ?_)
              clear hK K
              try simp only [sT, sZ, sS]
              refine tk1 28 ⟨some 81, _, _, _, _, _⟩ ?_ rfl hH6 ?_ ?_
              rotate_left
              ·(intro w hSw; (try dsimp only at hSw); go_simp; first | done | with_reducible rfl)
              try simp only [Act.put, sT, sZ, sS]
              refine wpAnyH_ready (rs := [30]) (by as_aux_lemma => kernel_rfl) (by simp) ?_
              refine AllReadyH.cons (o := ⟨none, _, _, _, _, _⟩) rfl (fun K hK => ?_) ?_
              ·rw [if_pos (by as_aux_lemma => kernel_rfl)]
               have hst := run_storeVar_row (P := Try.prog) _ _ 62 62 _ #[.int .u8 x0, .int .u8 x1, .int .u8 x2, .int .u8 x3, .int .i64 (p : Int), .int .i64 (m : Int)] hax (by as_aux_lemma => kernel_rfl) rfl (by simp [Value.oneCell'])
               refine wp_store_row' _ _ _ rfl _ _ rfl rfl hst ?_
               have hbs : Below wo.heap.size wx27 (wx27.setRow _ #[.int .u8 x0, .int .u8 x1, .int .u8 x2, .int .u8 x3, .int .i64 (p : Int), .int .i64 (m : Int)]) := below_setRow haB
               have hfin := setRow_heap _ _ _ #[.int .u8 x0, .int .u8 x1, .int .u8 x2, .int .u8 x3, .int .i64 (p : Int), .int .i64 (m : Int)] _ _ hax
               refine hK.out _ _ (⟨hH6.1.trans hbs, by rw [cell_setRow_other _ _ _ _ (fun e => absurd (Nat.le_trans haB (Nat.le_of_eq e.symm)) (Nat.not_le.2 HGL.out))]; exact hH6.2.1, by rw [cell_setRow_other _ _ _ _ (fun e => absurd (Nat.le_trans haB (Nat.le_of_eq e.symm)) (Nat.not_le.2 HGL.out))]; exact hH6.2.2.1, by rw [cell_setRow_other _ _ _ _ (fun e => absurd (Nat.le_trans haB (Nat.le_of_eq e.symm)) (Nat.not_le.2 HGL.out))]; exact hH6.2.2.2.1, by rw [cell_setRow_other _ _ _ _ (fun e => absurd (Nat.le_trans haB (Nat.le_of_eq e.symm)) (Nat.not_le.2 HGL.out))]; exact hH6.2.2.2.2⟩) (fun hH7 => ?_)
               clear hK K
               try simp only [sT, sZ, sS]
               refine wpAnyH_done (by as_aux_lemma => kernel_rfl) ?_ _
               go_wp2_with fail
               go_meet
               exact ⟨_, rfl, haB, (by first | exact hal | (simp; done) | (simp; exact hal)), hfin, hH7.1⟩
              exact AllReadyH.nil
             exact AllReadyH.nil
            exact AllReadyH.nil
           refine AllReadyH.cons (o := ⟨some 8, _, _, _, _, _⟩) rfl (fun K hK => ?_) ?_
           ·rw [if_pos (by as_aux_lemma => kernel_rfl)]
            go_simp
            have hax : (wo.drew.alloc (.cells #[.int .u8 0, .int .u8 0, .int .u8 0, .int .u8 0, .int .i64 0, .int .i64 0] 62)).heap[wo.drew.heap.size]? = some (.cells #[.int .u8 0, .int .u8 0, .int .u8 0, .int .u8 0, .int .i64 0, .int .i64 0] 62 (0, 0)) := heap_alloc_new _ _
            have hal : wo.drew.heap.size < (wo.drew.alloc (.cells #[.int .u8 0, .int .u8 0, .int .u8 0, .int .u8 0, .int .i64 0, .int .i64 0] 62)).heap.size := heap_more _ _
            have haB : wo.heap.size ≤ wo.drew.heap.size := hH0.1.size
            refine hK.out _ _ (⟨hH0.1.alloc hH0.1.size _, cells_alloc _ hH0.2.1, cells_alloc _ hH0.2.2.1, cells_alloc _ hH0.2.2.2.1, cells_alloc _ hH0.2.2.2.2⟩) (fun hH8 => ?_)
            clear hK K
            try simp only [sT, sZ, sS]
            refine wpAnyH_ready (rs := [23]) (by as_aux_lemma => kernel_rfl) (by simp) ?_
            refine AllReadyH.cons (o := ⟨some 76, _, _, _, _, _⟩) rfl (fun K hK => ?_) ?_
            ·rw [if_pos (by as_aux_lemma => kernel_rfl)]
             go_simp
             refine (HLp.out _ hH8.1).mono ?_
             rintro e wx23 ⟨rfl, hbx23⟩
             have haxn := (hbx23.block _ hal).trans hax
             have haln := Nat.lt_of_lt_of_le hal hbx23.size
             clear hax hal
             have hax := haxn
             have hal := haln
             clear haxn haln
             refine hK.out _ _ (⟨hH8.1.trans (hbx23.mono hH8.1.size), cellsAt_below hH8.2.1 hbx23, cellsAt_below hH8.2.2.1 hbx23, cellsAt_below hH8.2.2.2.1 hbx23, cellsAt_below hH8.2.2.2.2 hbx23⟩) (fun hH9 => ?_)
             clear hK K
             try simp only [sT, sZ, sS]
             refine wpAnyH_ready (rs := [27]) (by as_aux_lemma => kernel_rfl) (by simp) ?_
             refine AllReadyH.cons (o := ⟨some 80, _, _, _, _, _⟩) rfl (fun K hK => ?_) ?_
             ·rw [if_pos (by as_aux_lemma => kernel_rfl)]
              go_simp
              refine (HLm.out _ hH9.1).mono ?_
              rintro e wx27 ⟨rfl, hbx27⟩
              have haxn := (hbx27.block _ hal).trans hax
              have haln := Nat.lt_of_lt_of_le hal hbx27.size
              clear hax hal
              have hax := haxn
              have hal := haln
              clear haxn haln
              refine hK.out _ _ (⟨hH9.1.trans (hbx27.mono hH9.1.size), cellsAt_below hH9.2.1 hbx27, cellsAt_below hH9.2.2.1 hbx27, cellsAt_below hH9.2.2.2.1 hbx27, cellsAt_below hH9.2.2.2.2 hbx27⟩) (fun hH10 => ?_)
              clear hK K
              try simp only [sT, sZ, sS]
              refine tk1 28 ⟨some 81, _, _, _, _, _⟩ ?_ rfl hH10 ?_ ?_
              rotate_left
              ·(intro w hSw; (try dsimp only at hSw); go_simp; first | done | with_reducible rfl)
              try simp only [Act.put, sT, sZ, sS]
              refine wpAnyH_ready (rs := [30]) (by as_aux_lemma => kernel_rfl) (by simp) ?_
              refine AllReadyH.cons (o := ⟨none, _, _, _, _, _⟩) rfl (fun K hK => ?_) ?_
              ·rw [if_pos (by as_aux_lemma => kernel_rfl)]
               have hst := run_storeVar_row (P := Try.prog) _ _ 62 62 _ #[.int .u8 x0, .int .u8 x1, .int .u8 x2, .int .u8 x3, .int .i64 (p : Int), .int .i64 (m : Int)] hax (by as_aux_lemma => kernel_rfl) rfl (by simp [Value.oneCell'])
               refine wp_store_row' _ _ _ rfl _ _ rfl rfl hst ?_
               have hbs : Below wo.heap.size wx27 (wx27.setRow _ #[.int .u8 x0, .int .u8 x1, .int .u8 x2, .int .u8 x3, .int .i64 (p : Int), .int .i64 (m : Int)]) := below_setRow haB
               have hfin := setRow_heap _ _ _ #[.int .u8 x0, .int .u8 x1, .int .u8 x2, .int .u8 x3, .int .i64 (p : Int), .int .i64 (m : Int)] _ _ hax
               refine hK.out _ _ (⟨hH10.1.trans hbs, by rw [cell_setRow_other _ _ _ _ (fun e => absurd (Nat.le_trans haB (Nat.le_of_eq e.symm)) (Nat.not_le.2 HGL.out))]; exact hH10.2.1, by rw [cell_setRow_other _ _ _ _ (fun e => absurd (Nat.le_trans haB (Nat.le_of_eq e.symm)) (Nat.not_le.2 HGL.out))]; exact hH10.2.2.1, by rw [cell_setRow_other _ _ _ _ (fun e => absurd (Nat.le_trans haB (Nat.le_of_eq e.symm)) (Nat.not_le.2 HGL.out))]; exact hH10.2.2.2.1, by rw [cell_setRow_other _ _ _ _ (fun e => absurd (Nat.le_trans haB (Nat.le_of_eq e.symm)) (Nat.not_le.2 HGL.out))]; exact hH10.2.2.2.2⟩) (fun hH11 => ?_)
               clear hK K
               try simp only [sT, sZ, sS]
               refine wpAnyH_done (by as_aux_lemma => kernel_rfl) ?_ _
               go_wp2_with fail
               go_meet
               exact ⟨_, rfl, haB, (by first | exact hal | (simp; done) | (simp; exact hal)), hfin, hH11.1⟩
              exact AllReadyH.nil
             exact AllReadyH.nil
            exact AllReadyH.nil
           exact AllReadyH.nil
          case rest =>
           obtain ⟨X, rfl, hX1, hX2, hXB, hbc⟩ := hcut
           rename World => wt
           have HX1 := Lib.hid hX1
           have HX2 := Lib.hid hX2
           have HBCR := Lib.hid hbc
           have HBC := Lib.hid (HBW.out.trans (hbc.mono HBW.out.size))
           have ht : ∀ j u, (#[.int .u8 x0, .int .u8 x1, .int .u8 x2, .int .u8 x3, .int .i64 (p : Int), .int .i64 (m : Int)] : Array Value)[j]? = some u → wt.cell? ⟨X, j, none⟩ = some u := fun j u hj => by
            rw [cell_of_row _ X j _ _ _ hXB]; exact hj
           have t0 := ht 0 _ rfl
           have t1 := ht 1 _ rfl
           have t2 := ht 2 _ rfl
           have t3 := ht 3 _ rfl
           have t4 := ht 4 _ rfl
           have t5 := ht 5 _ rfl
           clear hX1 hX2 hXB hbc ht c0 c1 c2 c3 z0 z1 z2 z3 y0 y1 y2 y3
           have HT0 := Lib.hid (And.intro t0 (And.intro t1 (And.intro t2 (And.intro t3 (And.intro t4 t5)))))
           have hat4w := HAT4.out
           have hat := HFX.out.1
           have hi16 := HFX.out.2.1
           have hN16 := HFX.out.2.2.1
           have hmb := HFX.out.2.2.2.2
           have hpb := HFX.out.2.2.2.1
           have hNl := HN.out
           have hN6b := HL.out
           obtain ⟨pm, hpm⟩ : ∃ pm, pm = p % 4 := ⟨_, rfl⟩
           obtain ⟨pe, hpe⟩ : ∃ pe, pe = p + m := ⟨_, rfl⟩
           obtain ⟨Y, hY⟩ : ∃ Y, Y = numAt l (at4 : Int) 4 := ⟨_, rfl⟩
           obtain ⟨Z, hZ⟩ : ∃ Z, Z = sumTag [x0, x1, x2, x3] ((l.drop p).take (pe - p)) := ⟨_, rfl⟩
           obtain ⟨V, hV⟩ : ∃ V, V = cutV (some ⟨g, off, none⟩) p pe c := ⟨_, rfl⟩
           obtain ⟨al, hal⟩ : ∃ al, al = allB N (p : Int) (m : Int) := ⟨_, rfl⟩
           have hYb := numAt_b HA.out (at4 : Int) 4
           rw [← hY] at hYb
           have qY : IntKind.u32.wrap Y = Y := by rw [wrap_u32]; omega
           have qr : IntKind.i64.wrap ((p : Int).tmod 4) = (pm : Int) := by rw [IntKind.wrap_i64, Int.tmod_eq_emod_of_nonneg (Int.natCast_nonneg _)]; omega
           have qr2 : ((p : Int).tmod 4) = (pm : Int) := by rw [Int.tmod_eq_emod_of_nonneg (Int.natCast_nonneg _)]; omega
           have qe : IntKind.i64.wrap ((p : Int) + (m : Int)) = (pe : Int) := by rw [IntKind.wrap_i64]; omega
           have htx : (tabAt l i).1 = [x0, x1, x2, x3] := by rw [HTA.out]
           have hbx : AllB [x0, x1, x2, x3] := by
            rw [← htx]; intro x hx
            simp only [tabAt, List.mem_cons, List.not_mem_nil, or_false] at hx
            rcases hx with rfl | rfl | rfl | rfl <;> exact getD_b HA.out _
           have HALL : Hid (∀ wx, Calls Try.prog 28 #[.slice (some ⟨g, off, none⟩) N c, .int .i64 (p : Int), .int .i64 (m : Int)] wx fun e w' => e = .returned (.bool al) ∧ wx = w') := Lib.hid (fun wx => by rw [hal]; exact all_any wx _ N c (by omega) _ _)
           have HLS : Hid (∀ wx, Below wt.heap.size wt wx → Calls Try.prog 27 #[.slice (some ⟨g, off, none⟩) N c, .int .i64 (at4 : Int)] wx fun e w' => e = .returned (.int .i64 Y) ∧ Below wx.heap.size wx w') := Lib.hid (fun wx hx => by
            rw [hY]
            exact l_any wx _ l (HV.out.below (HBC.out.trans (hx.mono HBC.out.size))) HA.out HL.out _)
           have HBT : Hid (badTab l n i ts = (decide (pm ≠ 0) || (decide (p < bg) || (!al || (decide (Z ≠ Y) || (decide (0 < i) && !lessL (ts.getD (i - 1) ([], 0, 0)).1 (tabAt l i).1)))))) := Lib.hid (by
            unfold badTab
            have e1 : (tabAt l i).2.1 = (p : Int) := by rw [HTA.out]
            have e2 : (tabAt l i).2.2 = (m : Int) := by rw [HTA.out]
            have e3 : decide ((p : Int) % 4 ≠ 0) = decide (pm ≠ 0) := decide_eq_decide.2 (by omega)
            have e4 : decide ((p : Int) < 12 + 16 * (n : Int)) = decide (p < bg) := decide_eq_decide.2 (by have := HBGE.out; omega)
            rw [e1, e2, e3, e4, htx, hZ, hY, hpe, hat4w, hat, hi16, hal, HN.out]
            simp only [Int.toNat_natCast, Nat.add_sub_cancel_left])
           have HPE := Lib.hid hpe
           by_cases g1 : pm = 0
           ·have bm : ((pm : Int) != 0) = false := by simp [g1]
            by_cases g2 : p < bg
            ·have b6 : ((p : Int) < (bg : Int)) = True := eq_true (by omega)
             have b6n : (p < bg) = True := eq_true g2
             have HQ : Hid (q = ([], 50)) := Lib.hid (HTS.out.2.1 HBF2.out (tabsL_bad l n i HIN.out ts HTAB.out (.inl (by rw [HBT.out]; simp [g2]))))
             clear hpm hpe hat hi16 hN16 hpb hmb hNl hN6b hat4w hY hYb hZ hV hal htx hbx g1 g2
             go_upto_region 10 with fail
             as_aux_lemma =>
              refine wp_region_held_drew (S := fun w' => Below wt.heap.size wt w' ∧ w'.cell? ⟨X, 0, none⟩ = some (.int .u8 x0) ∧ w'.cell? ⟨X, 1, none⟩ = some (.int .u8 x1) ∧ w'.cell? ⟨X, 2, none⟩ = some (.int .u8 x2) ∧ w'.cell? ⟨X, 3, none⟩ = some (.int .u8 x3) ∧ w'.cell? ⟨X, 4, none⟩ = some (.int .i64 (p : Int)) ∧ w'.cell? ⟨X, 5, none⟩ = some (.int .i64 (m : Int))) (by as_aux_lemma => kernel_rfl) (⟨(Below.refl _ wt).drew, t0, t1, t2, t3, t4, t5⟩) (fun hH0 => ?_)
              change wpAnyH _ _ _ _ _ 57 #[false, false, false, false, false, false, false, false, false, false, false, false, false, false, false, false, false, false, false, false, false, false, false, false, false, false, false, false, false, false, false, false, false, false, false, false, false, false, false, false, false, false, false, false, false, false, false, false, false, false, false, false, false, false, false, false, false] _ _
              refine tk1 0 ⟨some 82, _, _, _, _, _⟩ ?_ rfl hH0 ?_ ?_
              rotate_left
              ·(intro w hSw; (try dsimp only at hSw); go_simp; first | done | with_reducible rfl)
              try simp only [Act.put, sT, sZ, sS]
              refine tk1 1 ⟨some 83, _, _, _, _, _⟩ ?_ rfl hH0 ?_ ?_
              rotate_left
              ·(intro w hSw; (try dsimp only at hSw); go_simp; first | done | with_reducible rfl)
              try simp only [Act.put, sT, sZ, sS]
              refine tk1 2 ⟨some 84, _, _, _, _, _⟩ ?_ rfl hH0 ?_ ?_
              rotate_left
              ·(intro w hSw; (try dsimp only at hSw); go_simp; first | done | with_reducible rfl)
              try simp only [Act.put, sT, sZ, sS]
              refine tk1 3 ⟨some 85, _, _, _, _, _⟩ ?_ rfl hH0 ?_ ?_
              rotate_left
              ·(intro w hSw; (try dsimp only at hSw); go_simp; first | done | with_reducible rfl)
              try simp only [Act.put, sT, sZ, sS]
              refine tk1 4 ⟨some 86, _, _, _, _, _⟩ ?_ rfl hH0 ?_ ?_
              rotate_left
              ·(intro w hSw; (try dsimp only at hSw); go_simp; first | done | with_reducible rfl)
              try simp only [Act.put, sT, sZ, sS]
              refine tk1 5 ⟨some 87, _, _, _, _, _⟩ ?_ rfl hH0 ?_ ?_
              rotate_left
              ·(intro w hSw; (try dsimp only at hSw); go_simp; first | done | with_reducible rfl)
              try simp only [Act.put, sT, sZ, sS]
              refine tk1 6 ⟨some 88, _, _, _, _, _⟩ ?_ rfl hH0 ?_ ?_
              rotate_left
              ·(intro w hSw; (try dsimp only at hSw); go_simp; first | done | with_reducible rfl)
              try simp only [Act.put, sT, sZ, sS]
              refine tk1 7 ⟨some 89, _, _, _, _, _⟩ ?_ rfl hH0 ?_ ?_
              rotate_left
              ·(intro w hSw; (try dsimp only at hSw); go_simp; first | done | with_reducible rfl)
              try simp only [Act.put, sT, sZ, sS]
              refine tk1 8 ⟨some 90, _, _, _, _, _⟩ ?_ rfl hH0 ?_ ?_
              rotate_left
              ·(intro w hSw; (try dsimp only at hSw); go_simp; first | done | with_reducible rfl)
              try simp only [Act.put, sT, sZ, sS]
              refine tk1 9 ⟨some 91, _, _, _, _, _⟩ ?_ rfl hH0 ?_ ?_
              rotate_left
              ·(intro w hSw; (try dsimp only at hSw); go_simp; first | done | with_reducible rfl)
              try simp only [Act.put, sT, sZ, sS]
              refine tk1 10 ⟨some 92, _, _, _, _, _⟩ ?_ rfl hH0 ?_ ?_
              rotate_left
              ·(intro w hSw; (try dsimp only at hSw); go_simp; first | done | with_reducible rfl)
              try simp only [Act.put, sT, sZ, sS]
              refine tk1 11 ⟨some 93, _, _, _, _, _⟩ ?_ rfl hH0 ?_ ?_
              rotate_left
              ·(intro w hSw; (try dsimp only at hSw); go_simp; first | done | with_reducible rfl)
              try simp only [Act.put, sT, sZ, sS]
              refine tk1 12 ⟨some 94, _, _, _, _, _⟩ ?_ rfl hH0 ?_ ?_
              rotate_left
              ·(intro w hSw; (try dsimp only at hSw); go_simp; first | done | with_reducible rfl)
              try simp only [Act.put, sT, sZ, sS]
              refine tk0 13 ⟨some 95, _, _, _, _, _⟩ rfl hH0 ?_
              try simp only [Act.put, sT, sZ, sS]
              refine tk0 14 ⟨some 96, _, _, _, _, _⟩ rfl hH0 ?_
              try simp only [Act.put, sT, sZ, sS]
              refine tk0 15 ⟨some 97, _, _, _, _, _⟩ rfl hH0 ?_
              try simp only [Act.put, sT, sZ, sS]
              refine tk0 16 ⟨some 98, _, _, _, _, _⟩ rfl hH0 ?_
              try simp only [Act.put, sT, sZ, sS]
              refine tk0 17 ⟨some 99, _, _, _, _, _⟩ rfl hH0 ?_
              try simp only [Act.put, sT, sZ, sS]
              refine tk0 18 ⟨some 100, _, _, _, _, _⟩ rfl hH0 ?_
              try simp only [Act.put, sT, sZ, sS]
              refine tk0 19 ⟨some 101, _, _, _, _, _⟩ rfl hH0 ?_
              try simp only [Act.put, sT, sZ, sS]
              refine tk1 20 ⟨some 102, _, _, _, _, _⟩ ?_ rfl hH0 ?_ ?_
              rotate_left
              ·(intro w hSw; (try dsimp only at hSw); go_simp; first | done | with_reducible rfl)
              try simp only [Act.put, sT, sZ, sS]
              refine tk1 21 ⟨some 103, _, _, _, _, _⟩ ?_ rfl hH0 ?_ ?_
              rotate_left
              ·(intro w hSw; (try dsimp only at hSw); go_simp; first | done | with_reducible rfl)
              try simp only [Act.put, sT, sZ, sS]
              refine tk0 22 ⟨some 104, _, _, _, _, _⟩ rfl hH0 ?_
              try simp only [Act.put, sT, sZ, sS]
              refine tk0 23 ⟨some 105, _, _, _, _, _⟩ rfl hH0 ?_
              try simp only [Act.put, sT, sZ, sS]
              refine tk0 24 ⟨some 106, _, _, _, _, _⟩ rfl hH0 ?_
              try simp only [Act.put, sT, sZ, sS]
              refine tk0 25 ⟨some 107, _, _, _, _, _⟩ rfl hH0 ?_
              try simp only [Act.put, sT, sZ, sS]
              refine tk0 26 ⟨some 108, _, _, _, _, _⟩ rfl hH0 ?_
              try simp only [Act.put, sT, sZ, sS]
              refine tk0 27 ⟨some 109, _, _, _, _, _⟩ rfl hH0 ?_
              try simp only [Act.put, sT, sZ, sS]
              refine tk0 28 ⟨some 110, _, _, _, _, _⟩ rfl hH0 ?_
              try simp only [Act.put, sT, sZ, sS]
              refine tk0 29 ⟨some 111, _, _, _, _, _⟩ rfl hH0 ?_
              try simp only [Act.put, sT, sZ, sS]
              refine tk0 30 ⟨some 112, _, _, _, _, _⟩ rfl hH0 ?_
              try simp only [Act.put, sT, sZ, sS]
              refine tk0 31 ⟨some 113, _, _, _, _, _⟩ rfl hH0 ?_
              try simp only [Act.put, sT, sZ, sS]
              refine tk0 32 ⟨some 114, _, _, _, _, _⟩ rfl hH0 ?_
              try simp only [Act.put, sT, sZ, sS]
              refine tk0 33 ⟨some 115, _, _, _, _, _⟩ rfl hH0 ?_
              try simp only [Act.put, sT, sZ, sS]
              refine tk0 34 ⟨some 116, _, _, _, _, _⟩ rfl hH0 ?_
              try simp only [Act.put, sT, sZ, sS]
              refine tk0 35 ⟨some 117, _, _, _, _, _⟩ rfl hH0 ?_
              try simp only [Act.put, sT, sZ, sS]
              refine tk0 36 ⟨some 118, _, _, _, _, _⟩ rfl hH0 ?_
              try simp only [Act.put, sT, sZ, sS]
              refine tk0 37 ⟨some 119, _, _, _, _, _⟩ rfl hH0 ?_
              try simp only [Act.put, sT, sZ, sS]
              refine tk0 38 ⟨some 120, _, _, _, _, _⟩ rfl hH0 ?_
              try simp only [Act.put, sT, sZ, sS]
              refine tk0 39 ⟨some 121, _, _, _, _, _⟩ rfl hH0 ?_
              try simp only [Act.put, sT, sZ, sS]
              refine tk1 40 ⟨some 122, _, _, _, _, _⟩ ?_ rfl hH0 ?_ ?_
              rotate_left
              ·(intro w hSw; (try dsimp only at hSw); go_simp; first | done | with_reducible rfl)
              try simp only [Act.put, sT, sZ, sS]
              refine tk1 41 ⟨some 123, _, _, _, _, _⟩ ?_ rfl hH0 ?_ ?_
              rotate_left
              ·(intro w hSw; (try dsimp only at hSw); go_simp; first | done | with_reducible rfl)
              try simp only [Act.put, sT, sZ, sS]
              refine tk0 42 ⟨some 124, _, _, _, _, _⟩ rfl hH0 ?_
              try simp only [Act.put, sT, sZ, sS]
              refine tk0 43 ⟨some 125, _, _, _, _, _⟩ rfl hH0 ?_
              try simp only [Act.put, sT, sZ, sS]
              refine tk0 44 ⟨some 126, _, _, _, _, _⟩ rfl hH0 ?_
              try simp only [Act.put, sT, sZ, sS]
              refine tk0 45 ⟨some 127, _, _, _, _, _⟩ rfl hH0 ?_
              try simp only [Act.put, sT, sZ, sS]
              refine tk0 46 ⟨some 128, _, _, _, _, _⟩ rfl hH0 ?_
              try simp only [Act.put, sT, sZ, sS]
              refine tk0 47 ⟨some 129, _, _, _, _, _⟩ rfl hH0 ?_
              try simp only [Act.put, sT, sZ, sS]
              refine tk0 48 ⟨some 130, _, _, _, _, _⟩ rfl hH0 ?_
              try simp only [Act.put, sT, sZ, sS]
              refine tk0 49 ⟨some 131, _, _, _, _, _⟩ rfl hH0 ?_
              try simp only [Act.put, sT, sZ, sS]
              refine tk0 50 ⟨some 132, _, _, _, _, _⟩ rfl hH0 ?_
              try simp only [Act.put, sT, sZ, sS]
              refine tk0 51 ⟨some 133, _, _, _, _, _⟩ rfl hH0 ?_
              try simp only [Act.put, sT, sZ, sS]
              refine tk0 52 ⟨some 134, _, _, _, _, _⟩ rfl hH0 ?_
              try simp only [Act.put, sT, sZ, sS]
              refine tk0 53 ⟨some 135, _, _, _, _, _⟩ rfl hH0 ?_
              try simp only [Act.put, sT, sZ, sS]
              refine tk0 54 ⟨some 136, _, _, _, _, _⟩ rfl hH0 ?_
              try simp only [Act.put, sT, sZ, sS]
              refine tk0 55 ⟨some 137, _, _, _, _, _⟩ rfl hH0 ?_
              try simp only [Act.put, sT, sZ, sS]
              refine tk1 56 ⟨some 138, _, _, _, _, _⟩ ?_ rfl hH0 ?_ ?_
              rotate_left
              ·(intro w hSw; (try dsimp only at hSw); go_simp; first | done | with_reducible rfl)
              try simp only [Act.put, sT, sZ, sS]
              refine wpAnyH_done (by as_aux_lemma => kernel_rfl) ?_ _
              go_wp2_with fail
              go_ret2
              exact ⟨HBC.out.trans (hH0.1.mono HBC.out.size), _, by rw [HQ.out]; rfl, by rw [HQ.out]; exact OwnU.nil _ _⟩
            ·have b6 : ((p : Int) < (bg : Int)) = False := eq_false (by omega)
             have b6n : (p < bg) = False := eq_false g2
             cases al with
             | false =>
              have HQ : Hid (q = ([], 50)) := Lib.hid (HTS.out.2.1 HBF2.out (tabsL_bad l n i HIN.out ts HTAB.out (.inl (by rw [HBT.out]; simp))))
              clear hpm hpe hat hi16 hN16 hpb hmb hNl hN6b hat4w hY hYb hZ hV hal htx hbx g1 g2
              go_upto_region 10 with fail
              as_aux_lemma =>
               refine wp_region_held_drew (S := fun w' => Below wt.heap.size wt w' ∧ w'.cell? ⟨X, 0, none⟩ = some (.int .u8 x0) ∧ w'.cell? ⟨X, 1, none⟩ = some (.int .u8 x1) ∧ w'.cell? ⟨X, 2, none⟩ = some (.int .u8 x2) ∧ w'.cell? ⟨X, 3, none⟩ = some (.int .u8 x3) ∧ w'.cell? ⟨X, 4, none⟩ = some (.int .i64 (p : Int)) ∧ w'.cell? ⟨X, 5, none⟩ = some (.int .i64 (m : Int))) (by as_aux_lemma => kernel_rfl) (⟨(Below.refl _ wt).drew, t0, t1, t2, t3, t4, t5⟩) (fun hH0 => ?_)
               change wpAnyH _ _ _ _ _ 57 #[false, false, false, false, false, false, false, false, false, false, false, false, false, false, false, false, false, false, false, false, false, false, false, false, false, false, false, false, false, false, false, false, false, false, false, false, false, false, false, false, false, false, false, false, false, false, false, false, false, false, false, false, false, false, false, false, false] _ _
               refine tk1 0 ⟨some 82, _, _, _, _, _⟩ ?_ rfl hH0 ?_ ?_
               rotate_left
               ·(intro w hSw; (try dsimp only at hSw); go_simp; first | done | with_reducible rfl)
               try simp only [Act.put, sT, sZ, sS]
               refine tk1 1 ⟨some 83, _, _, _, _, _⟩ ?_ rfl hH0 ?_ ?_
               rotate_left
               ·(intro w hSw; (try dsimp only at hSw); go_simp; first | done | with_reducible rfl)
               try simp only [Act.put, sT, sZ, sS]
               refine tk1 2 ⟨some 84, _, _, _, _, _⟩ ?_ rfl hH0 ?_ ?_
               rotate_left
               ·(intro w hSw; (try dsimp only at hSw); go_simp; first | done | with_reducible rfl)
               try simp only [Act.put, sT, sZ, sS]
               refine tk1 3 ⟨some 85, _, _, _, _, _⟩ ?_ rfl hH0 ?_ ?_
               rotate_left
               ·(intro w hSw; (try dsimp only at hSw); go_simp; first | done | with_reducible rfl)
               try simp only [Act.put, sT, sZ, sS]
               refine tk1 4 ⟨some 86, _, _, _, _, _⟩ ?_ rfl hH0 ?_ ?_
               rotate_left
               ·(intro w hSw; (try dsimp only at hSw); go_simp; first | done | with_reducible rfl)
               try simp only [Act.put, sT, sZ, sS]
               refine tk1 5 ⟨some 87, _, _, _, _, _⟩ ?_ rfl hH0 ?_ ?_
               rotate_left
               ·(intro w hSw; (try dsimp only at hSw); go_simp; first | done | with_reducible rfl)
               try simp only [Act.put, sT, sZ, sS]
               refine tk1 6 ⟨some 88, _, _, _, _, _⟩ ?_ rfl hH0 ?_ ?_
               rotate_left
               ·(intro w hSw; (try dsimp only at hSw); go_simp; first | done | with_reducible rfl)
               try simp only [Act.put, sT, sZ, sS]
               refine tk1 7 ⟨some 89, _, _, _, _, _⟩ ?_ rfl hH0 ?_ ?_
               rotate_left
               ·(intro w hSw; (try dsimp only at hSw); go_simp; first | done | with_reducible rfl)
               try simp only [Act.put, sT, sZ, sS]
               refine tk1 8 ⟨some 90, _, _, _, _, _⟩ ?_ rfl hH0 ?_ ?_
               rotate_left
               ·(intro w hSw; (try dsimp only at hSw); go_simp; first | done | with_reducible rfl)
               try simp only [Act.put, sT, sZ, sS]
               refine tk1 9 ⟨some 91, _, _, _, _, _⟩ ?_ rfl hH0 ?_ ?_
               rotate_left
               ·(intro w hSw; (try dsimp only at hSw); go_simp; first | done | with_reducible rfl)
               try simp only [Act.put, sT, sZ, sS]
               refine tk1 10 ⟨some 92, _, _, _, _, _⟩ ?_ rfl hH0 ?_ ?_
               rotate_left
               ·(intro w hSw; (try dsimp only at hSw); go_simp; first | done | with_reducible rfl)
               try simp only [Act.put, sT, sZ, sS]
               refine tk1 11 ⟨some 93, _, _, _, _, _⟩ ?_ rfl hH0 ?_ ?_
               rotate_left
               ·(intro w hSw; (try dsimp only at hSw); go_simp; first | done | with_reducible rfl)
               try simp only [Act.put, sT, sZ, sS]
               refine tk1 12 ⟨some 94, _, _, _, _, _⟩ ?_ rfl hH0 ?_ ?_
               rotate_left
               ·(intro w hSw; (try dsimp only at hSw); go_simp; first | done | with_reducible rfl)
               try simp only [Act.put, sT, sZ, sS]
               refine tk1 13 ⟨some 95, _, _, _, _, _⟩ ?_ rfl hH0 ?_ ?_
               rotate_left
               ·(intro w hSw; (try dsimp only at hSw); go_simp; first | done | with_reducible rfl)
               try simp only [Act.put, sT, sZ, sS]
               refine tk1 14 ⟨some 96, _, _, _, _, _⟩ ?_ rfl hH0 ?_ ?_
               rotate_left
               ·(intro w hSw; (try dsimp only at hSw); go_simp; first | done | with_reducible rfl)
               try simp only [Act.put, sT, sZ, sS]
               refine tk1 15 ⟨some 97, _, _, _, _, _⟩ ?_ rfl hH0 ?_ ?_
               rotate_left
               ·(intro w hSw; (try dsimp only at hSw); go_simp; first | done | with_reducible rfl)
               try simp only [Act.put, sT, sZ, sS]
               refine tk1 16 ⟨some 98, _, _, _, _, _⟩ ?_ rfl hH0 ?_ ?_
               rotate_left
               ·(intro w hSw; (try dsimp only at hSw); go_simp; first | done | with_reducible rfl)
               try simp only [Act.put, sT, sZ, sS]
               refine tk1 17 ⟨some 99, _, _, _, _, _⟩ ?_ rfl hH0 ?_ ?_
               rotate_left
               ·(intro w hSw; (try dsimp only at hSw); go_simp; first | done | with_reducible rfl)
               try simp only [Act.put, sT, sZ, sS]
               refine wpAnyH_ready (rs := [18]) (by as_aux_lemma => kernel_rfl) (by simp) ?_
               refine AllReadyH.cons (o := ⟨some 100, _, _, _, _, _⟩) rfl (fun K hK => ?_) ?_
               ·rw [if_pos (by as_aux_lemma => kernel_rfl)]
                go_simp
                refine (HALL.out _).mono ?_
                rintro e wq ⟨rfl, rfl⟩
                refine hK.out _ _ (hH0) (fun hH1 => ?_)
                clear hK K
                try simp only [sT, sZ, sS]
                refine tk1 19 ⟨some 101, _, _, _, _, _⟩ ?_ rfl hH1 ?_ ?_
                rotate_left
                ·(intro w hSw; (try dsimp only at hSw); go_simp; first | done | with_reducible rfl)
                try simp only [Act.put, sT, sZ, sS]
                refine tk1 20 ⟨some 102, _, _, _, _, _⟩ ?_ rfl hH1 ?_ ?_
                rotate_left
                ·(intro w hSw; (try dsimp only at hSw); go_simp; first | done | with_reducible rfl)
                try simp only [Act.put, sT, sZ, sS]
                refine tk1 21 ⟨some 103, _, _, _, _, _⟩ ?_ rfl hH1 ?_ ?_
                rotate_left
                ·(intro w hSw; (try dsimp only at hSw); go_simp; first | done | with_reducible rfl)
                try simp only [Act.put, sT, sZ, sS]
                refine tk0 22 ⟨some 104, _, _, _, _, _⟩ rfl hH1 ?_
                try simp only [Act.put, sT, sZ, sS]
                refine tk0 23 ⟨some 105, _, _, _, _, _⟩ rfl hH1 ?_
                try simp only [Act.put, sT, sZ, sS]
                refine tk0 24 ⟨some 106, _, _, _, _, _⟩ rfl hH1 ?_
                try simp only [Act.put, sT, sZ, sS]
                refine tk0 25 ⟨some 107, _, _, _, _, _⟩ rfl hH1 ?_
                try simp only [Act.put, sT, sZ, sS]
                refine tk0 26 ⟨some 108, _, _, _, _, _⟩ rfl hH1 ?_
                try simp only [Act.put, sT, sZ, sS]
                refine tk0 27 ⟨some 109, _, _, _, _, _⟩ rfl hH1 ?_
                try simp only [Act.put, sT, sZ, sS]
                refine tk0 28 ⟨some 110, _, _, _, _, _⟩ rfl hH1 ?_
                try simp only [Act.put, sT, sZ, sS]
                refine tk0 29 ⟨some 111, _, _, _, _, _⟩ rfl hH1 ?_
                try simp only [Act.put, sT, sZ, sS]
                refine tk0 30 ⟨some 112, _, _, _, _, _⟩ rfl hH1 ?_
                try simp only [Act.put, sT, sZ, sS]
                refine tk0 31 ⟨some 113, _, _, _, _, _⟩ rfl hH1 ?_
                try simp only [Act.put, sT, sZ, sS]
                refine tk0 32 ⟨some 114, _, _, _, _, _⟩ rfl hH1 ?_
                try simp only [Act.put, sT, sZ, sS]
                refine tk0 33 ⟨some 115, _, _, _, _, _⟩ rfl hH1 ?_
                try simp only [Act.put, sT, sZ, sS]
                refine tk0 34 ⟨some 116, _, _, _, _, _⟩ rfl hH1 ?_
                try simp only [Act.put, sT, sZ, sS]
                refine tk0 35 ⟨some 117, _, _, _, _, _⟩ rfl hH1 ?_
                try simp only [Act.put, sT, sZ, sS]
                refine tk0 36 ⟨some 118, _, _, _, _, _⟩ rfl hH1 ?_
                try simp only [Act.put, sT, sZ, sS]
                refine tk0 37 ⟨some 119, _, _, _, _, _⟩ rfl hH1 ?_
                try simp only [Act.put, sT, sZ, sS]
                refine tk0 38 ⟨some 120, _, _, _, _, _⟩ rfl hH1 ?_
                try simp only [Act.put, sT, sZ, sS]
                refine tk0 39 ⟨some 121, _, _, _, _, _⟩ rfl hH1 ?_
                try simp only [Act.put, sT, sZ, sS]
                refine tk1 40 ⟨some 122, _, _, _, _, _⟩ ?_ rfl hH1 ?_ ?_
                rotate_left
                ·(intro w hSw; (try dsimp only at hSw); go_simp; first | done | with_reducible rfl)
                try simp only [Act.put, sT, sZ, sS]
                refine tk1 41 ⟨some 123, _, _, _, _, _⟩ ?_ rfl hH1 ?_ ?_
                rotate_left
                ·(intro w hSw; (try dsimp only at hSw); go_simp; first | done | with_reducible rfl)
                try simp only [Act.put, sT, sZ, sS]
                refine tk0 42 ⟨some 124, _, _, _, _, _⟩ rfl hH1 ?_
                try simp only [Act.put, sT, sZ, sS]
                refine tk0 43 ⟨some 125, _, _, _, _, _⟩ rfl hH1 ?_
                try simp only [Act.put, sT, sZ, sS]
                refine tk0 44 ⟨some 126, _, _, _, _, _⟩ rfl hH1 ?_
                try simp only [Act.put, sT, sZ, sS]
                refine tk0 45 ⟨some 127, _, _, _, _, _⟩ rfl hH1 ?_
                try simp only [Act.put, sT, sZ, sS]
                refine tk0 46 ⟨some 128, _, _, _, _, _⟩ rfl hH1 ?_
                try simp only [Act.put, sT, sZ, sS]
                refine tk0 47 ⟨some 129, _, _, _, _, _⟩ rfl hH1 ?_
                try simp only [Act.put, sT, sZ, sS]
                refine tk0 48 ⟨some 130, _, _, _, _, _⟩ rfl hH1 ?_
                try simp only [Act.put, sT, sZ, sS]
                refine tk0 49 ⟨some 131, _, _, _, _, _⟩ rfl hH1 ?_
                try simp only [Act.put, sT, sZ, sS]
                refine tk0 50 ⟨some 132, _, _, _, _, _⟩ rfl hH1 ?_
                try simp only [Act.put, sT, sZ, sS]
                refine tk0 51 ⟨some 133, _, _, _, _, _⟩ rfl hH1 ?_
                try simp only [Act.put, sT, sZ, sS]
                refine tk0 52 ⟨some 134, _, _, _, _, _⟩ rfl hH1 ?_
                try simp only [Act.put, sT, sZ, sS]
                refine tk0 53 ⟨some 135, _, _, _, _, _⟩ rfl hH1 ?_
                try simp only [Act.put, sT, sZ, sS]
                refine tk0 54 ⟨some 136, _, _, _, _, _⟩ rfl hH1 ?_
                try simp only [Act.put, sT, sZ, sS]
                refine tk0 55 ⟨some 137, _, _, _, _, _⟩ rfl hH1 ?_
                try simp only [Act.put, sT, sZ, sS]
                refine tk1 56 ⟨some 138, _, _, _, _, _⟩ ?_ rfl hH1 ?_ ?_
                rotate_left
                ·(intro w hSw; (try dsimp only at hSw); go_simp; first | done | with_reducible rfl)
                try simp only [Act.put, sT, sZ, sS]
                refine wpAnyH_done (by as_aux_lemma => kernel_rfl) ?_ _
                go_wp2_with fail
                go_ret2
                exact ⟨HBC.out.trans (hH1.1.mono HBC.out.size), _, by rw [HQ.out]; rfl, by rw [HQ.out]; exact OwnU.nil _ _⟩
               exact AllReadyH.nil
             | true =>
              have hal2 : p ≤ N ∧ m ≤ N - p := by
               have h := hal.symm
               unfold allB at h
               rw [decide_eq_true_eq] at h
               omega
              have hslV : ∀ W, (Instr.slice 22 (.slice (some ⟨g, off, none⟩) N c) (some (.int .i64 (p : Int))) (some (.int .i64 (pe : Int))) none).run Try.prog W = .ok V W := fun W => by rw [hV]; exact run_cut_lh W _ N c p pe (by omega) (by have := HC.out; omega)
              have HSU : Hid (∀ wx, Below wt.heap.size wt wx → Calls Try.prog 29 #[.agg #[.int .u8 x0, .int .u8 x1, .int .u8 x2, .int .u8 x3], V] wx fun e w' => e = .returned (.int .u32 Z) ∧ Below wx.heap.size wx w') := Lib.hid (fun wx hx => by
               rw [hZ, hV]
               exact sumT_any wx _ hbx rfl _ _ (cut_num (HV.out.below (HBC.out.trans (hx.mono HBC.out.size))) p pe (by omega) (by omega)) (cut_nn HNN.out p pe (by omega)) (piece_b HA.out _ _) (by simp; omega))
              by_cases g3 : Z = Y
              ·have bz : (Z != Y) = false := by simp [g3]
               by_cases h0 : i = 0
               ·have b7 : ((0 : Int) < (i : Int)) = False := eq_false (by omega)
                have b7n : (0 < i) = False := eq_false (by omega)
                have HBAD : Hid (badTab l n i ts = false) := Lib.hid (by rw [HBT.out]; simp [g1, g2, g3, h0])
                have HI0 := Lib.hid h0
                clear hpm hpe hat hi16 hN16 hpb hmb hNl hN6b hat4w hY hYb hZ hV hal htx hbx g1 g2 g3 h0 hal2
                go_upto_region 10 with fail
                go_cut [138] from 82 to 187 (fun s138 wx => s138 = .bool false ∧ Below wt.heap.size wt wx)
                case first =>
                 as_aux_lemma =>
                  refine wp_region_held_drew (S := fun w' => Below wt.heap.size wt w' ∧ w'.cell? ⟨X, 0, none⟩ = some (.int .u8 x0) ∧ w'.cell? ⟨X, 1, none⟩ = some (.int .u8 x1) ∧ w'.cell? ⟨X, 2, none⟩ = some (.int .u8 x2) ∧ w'.cell? ⟨X, 3, none⟩ = some (.int .u8 x3) ∧ w'.cell? ⟨X, 4, none⟩ = some (.int .i64 (p : Int)) ∧ w'.cell? ⟨X, 5, none⟩ = some (.int .i64 (m : Int))) (by as_aux_lemma => kernel_rfl) (⟨(Below.refl _ wt).drew, t0, t1, t2, t3, t4, t5⟩) (fun hH0 => ?_)
                  change wpAnyH _ _ _ _ _ 57 #[false, false, false, false, false, false, false, false, false, false, false, false, false, false, false, false, false, false, false, false, false, false, false, false, false, false, false, false, false, false, false, false, false, false, false, false, false, false, false, false, false, false, false, false, false, false, false, false, false, false, false, false, false, false, false, false, false] _ _
                  refine tk1 0 ⟨some 82, _, _, _, _, _⟩ ?_ rfl hH0 ?_ ?_
                  rotate_left
                  ·(intro w hSw; (try dsimp only at hSw); go_simp; first | done | with_reducible rfl)
                  try simp only [Act.put, sT, sZ, sS]
                  refine tk1 1 ⟨some 83, _, _, _, _, _⟩ ?_ rfl hH0 ?_ ?_
                  rotate_left
                  ·(intro w hSw; (try dsimp only at hSw); go_simp; first | done | with_reducible rfl)
                  try simp only [Act.put, sT, sZ, sS]
                  refine tk1 2 ⟨some 84, _, _, _, _, _⟩ ?_ rfl hH0 ?_ ?_
                  rotate_left
                  ·(intro w hSw; (try dsimp only at hSw); go_simp; first | done | with_reducible rfl)
                  try simp only [Act.put, sT, sZ, sS]
                  refine tk1 3 ⟨some 85, _, _, _, _, _⟩ ?_ rfl hH0 ?_ ?_
                  rotate_left
                  ·(intro w hSw; (try dsimp only at hSw); go_simp; first | done | with_reducible rfl)
                  try simp only [Act.put, sT, sZ, sS]
                  refine tk1 4 ⟨some 86, _, _, _, _, _⟩ ?_ rfl hH0 ?_ ?_
                  rotate_left
                  ·(intro w hSw; (try dsimp only at hSw); go_simp; first | done | with_reducible rfl)
                  try simp only [Act.put, sT, sZ, sS]
                  refine tk1 5 ⟨some 87, _, _, _, _, _⟩ ?_ rfl hH0 ?_ ?_
                  rotate_left
                  ·(intro w hSw; (try dsimp only at hSw); go_simp; first | done | with_reducible rfl)
                  try simp only [Act.put, sT, sZ, sS]
                  refine tk1 6 ⟨some 88, _, _, _, _, _⟩ ?_ rfl hH0 ?_ ?_
                  rotate_left
                  ·(intro w hSw; (try dsimp only at hSw); go_simp; first | done | with_reducible rfl)
                  try simp only [Act.put, sT, sZ, sS]
                  refine tk1 7 ⟨some 89, _, _, _, _, _⟩ ?_ rfl hH0 ?_ ?_
                  rotate_left
                  ·(intro w hSw; (try dsimp only at hSw); go_simp; first | done | with_reducible rfl)
                  try simp only [Act.put, sT, sZ, sS]
                  refine tk1 8 ⟨some 90, _, _, _, _, _⟩ ?_ rfl hH0 ?_ ?_
                  rotate_left
                  ·(intro w hSw; (try dsimp only at hSw); go_simp; first | done | with_reducible rfl)
                  try simp only [Act.put, sT, sZ, sS]
                  refine tk1 9 ⟨some 91, _, _, _, _, _⟩ ?_ rfl hH0 ?_ ?_
                  rotate_left
                  ·(intro w hSw; (try dsimp only at hSw); go_simp; first | done | with_reducible rfl)
                  try simp only [Act.put, sT, sZ, sS]
                  refine tk1 10 ⟨some 92, _, _, _, _, _⟩ ?_ rfl hH0 ?_ ?_
                  rotate_left
                  ·(intro w hSw; (try dsimp only at hSw); go_simp; first | done | with_reducible rfl)
                  try simp only [Act.put, sT, sZ, sS]
                  refine tk1 11 ⟨some 93, _, _, _, _, _⟩ ?_ rfl hH0 ?_ ?_
                  rotate_left
                  ·(intro w hSw; (try dsimp only at hSw); go_simp; first | done | with_reducible rfl)
                  try simp only [Act.put, sT, sZ, sS]
                  refine tk1 12 ⟨some 94, _, _, _, _, _⟩ ?_ rfl hH0 ?_ ?_
                  rotate_left
                  ·(intro w hSw; (try dsimp only at hSw); go_simp; first | done | with_reducible rfl)
                  try simp only [Act.put, sT, sZ, sS]
                  refine tk1 13 ⟨some 95, _, _, _, _, _⟩ ?_ rfl hH0 ?_ ?_
                  rotate_left
                  ·(intro w hSw; (try dsimp only at hSw); go_simp; first | done | with_reducible rfl)
                  try simp only [Act.put, sT, sZ, sS]
                  refine tk1 14 ⟨some 96, _, _, _, _, _⟩ ?_ rfl hH0 ?_ ?_
                  rotate_left
                  ·(intro w hSw; (try dsimp only at hSw); go_simp; first | done | with_reducible rfl)
                  try simp only [Act.put, sT, sZ, sS]
                  refine tk1 15 ⟨some 97, _, _, _, _, _⟩ ?_ rfl hH0 ?_ ?_
                  rotate_left
                  ·(intro w hSw; (try dsimp only at hSw); go_simp; first | done | with_reducible rfl)
                  try simp only [Act.put, sT, sZ, sS]
                  refine tk1 16 ⟨some 98, _, _, _, _, _⟩ ?_ rfl hH0 ?_ ?_
                  rotate_left
                  ·(intro w hSw; (try dsimp only at hSw); go_simp; first | done | with_reducible rfl)
                  try simp only [Act.put, sT, sZ, sS]
                  refine tk1 17 ⟨some 99, _, _, _, _, _⟩ ?_ rfl hH0 ?_ ?_
                  rotate_left
                  ·(intro w hSw; (try dsimp only at hSw); go_simp; first | done | with_reducible rfl)
                  try simp only [Act.put, sT, sZ, sS]
                  refine wpAnyH_ready (rs := [18]) (by as_aux_lemma => kernel_rfl) (by simp) ?_
                  refine AllReadyH.cons (o := ⟨some 100, _, _, _, _, _⟩) rfl (fun K hK => ?_) ?_
                  ·rw [if_pos (by as_aux_lemma => kernel_rfl)]
                   go_simp
                   refine (HALL.out _).mono ?_
                   rintro e wq ⟨rfl, rfl⟩
                   refine hK.out _ _ (hH0) (fun hH1 => ?_)
                   clear hK K
                   try simp only [sT, sZ, sS]
                   refine tk1 19 ⟨some 101, _, _, _, _, _⟩ ?_ rfl hH1 ?_ ?_
                   rotate_left
                   ·(intro w hSw; (try dsimp only at hSw); go_simp; first | done | with_reducible rfl)
                   try simp only [Act.put, sT, sZ, sS]
                   refine tk1 20 ⟨some 102, _, _, _, _, _⟩ ?_ rfl hH1 ?_ ?_
                   rotate_left
                   ·(intro w hSw; (try dsimp only at hSw); go_simp; first | done | with_reducible rfl)
                   try simp only [Act.put, sT, sZ, sS]
                   refine tk1 21 ⟨some 103, _, _, _, _, _⟩ ?_ rfl hH1 ?_ ?_
                   rotate_left
                   ·(intro w hSw; (try dsimp only at hSw); go_simp; first | done | with_reducible rfl)
                   try simp only [Act.put, sT, sZ, sS]
                   refine tk1 22 ⟨some 104, _, _, _, _, _⟩ ?_ rfl hH1 ?_ ?_
                   rotate_left
                   ·(intro w hSw; (try dsimp only at hSw); go_simp; first | done | with_reducible rfl)
                   try simp only [Act.put, sT, sZ, sS]
                   refine tk1 23 ⟨some 105, _, _, _, _, _⟩ ?_ rfl hH1 ?_ ?_
                   rotate_left
                   ·(intro w hSw; (try dsimp only at hSw); go_simp; first | done | with_reducible rfl)
                   try simp only [Act.put, sT, sZ, sS]
                   refine tk1 24 ⟨some 106, _, _, _, _, _⟩ ?_ rfl hH1 ?_ ?_
                   rotate_left
                   ·(intro w hSw; (try dsimp only at hSw); go_simp; first | done | with_reducible rfl)
                   try simp only [Act.put, sT, sZ, sS]
                   refine tk1 25 ⟨some 107, _, _, _, _, _⟩ ?_ rfl hH1 ?_ ?_
                   rotate_left
                   ·(intro w hSw; (try dsimp only at hSw); go_simp; first | done | with_reducible rfl)
                   try simp only [Act.put, sT, sZ, sS]
                   refine tk1 26 ⟨some 108, _, _, _, _, _⟩ ?_ rfl hH1 ?_ ?_
                   rotate_left
                   ·(intro w hSw; (try dsimp only at hSw); go_simp; first | done | with_reducible rfl)
                   try simp only [Act.put, sT, sZ, sS]
                   refine tk1 27 ⟨some 109, _, _, _, _, _⟩ ?_ rfl hH1 ?_ ?_
                   rotate_left
                   ·(intro w hSw; (try dsimp only at hSw); go_simp; first | done | with_reducible rfl)
                   try simp only [Act.put, sT, sZ, sS]
                   refine tk1 28 ⟨some 110, _, _, _, _, _⟩ ?_ rfl hH1 ?_ ?_
                   rotate_left
                   ·(intro w hSw; (try dsimp only at hSw); go_simp; first | done | with_reducible rfl)
                   try simp only [Act.put, sT, sZ, sS]
                   refine tk1 29 ⟨some 111, _, _, _, _, _⟩ ?_ rfl hH1 ?_ ?_
                   rotate_left
                   ·(intro w hSw; (try dsimp only at hSw); go_simp; first | done | with_reducible rfl)
                   try simp only [Act.put, sT, sZ, sS]
                   refine tk1 30 ⟨some 112, _, _, _, _, _⟩ ?_ rfl hH1 ?_ ?_
                   rotate_left
                   ·(intro w hSw; (try dsimp only at hSw); go_simp; first | done | with_reducible rfl)
                   try simp only [Act.put, sT, sZ, sS]
                   refine tk1 31 ⟨some 113, _, _, _, _, _⟩ ?_ rfl hH1 ?_ ?_
                   rotate_left
                   ·(intro w hSw; (try dsimp only at hSw); go_simp; first | done | with_reducible rfl)
                   try simp only [Act.put, sT, sZ, sS]
                   refine tk1 32 ⟨some 114, _, _, _, _, _⟩ ?_ rfl hH1 ?_ ?_
                   rotate_left
                   ·(intro w hSw; (try dsimp only at hSw); go_simp; first | done | with_reducible rfl)
                   try simp only [Act.put, sT, sZ, sS]
                   refine tk1 34 ⟨some 116, _, _, _, _, _⟩ ?_ rfl hH1 ?_ ?_
                   rotate_left
                   ·(intro w hSw; (try dsimp only at hSw); go_simp; first | done | with_reducible rfl)
                   try simp only [Act.put, sT, sZ, sS]
                   refine tk1 35 ⟨some 117, _, _, _, _, _⟩ ?_ rfl hH1 ?_ ?_
                   rotate_left
                   ·(intro w hSw; (try dsimp only at hSw); go_simp; first | done | with_reducible rfl)
                   try simp only [Act.put, sT, sZ, sS]
                   refine tk1 36 ⟨some 118, _, _, _, _, _⟩ ?_ rfl hH1 ?_ ?_
                   rotate_left
                   ·(intro w hSw; (try dsimp only at hSw); go_simp; first | done | with_reducible rfl)
                   try simp only [Act.put, sT, sZ, sS]
                   refine wpAnyH_ready (rs := [33]) (by as_aux_lemma => kernel_rfl) (by simp) ?_
                   refine AllReadyH.cons (o := ⟨some 115, _, _, _, _, _⟩) rfl (fun K hK => ?_) ?_
                   ·rw [if_pos (by as_aux_lemma => kernel_rfl)]
                    go_simp
                    refine (HSU.out _ hH1.1).mono ?_
                    rintro e wy33 ⟨rfl, hby33⟩
                    refine hK.out _ _ (⟨hH1.1.trans (hby33.mono hH1.1.size), cellsAt_below hH1.2.1 hby33, cellsAt_below hH1.2.2.1 hby33, cellsAt_below hH1.2.2.2.1 hby33, cellsAt_below hH1.2.2.2.2.1 hby33, cellsAt_below hH1.2.2.2.2.2.1 hby33, cellsAt_below hH1.2.2.2.2.2.2 hby33⟩) (fun hH2 => ?_)
                    clear hK K
                    try simp only [sT, sZ, sS]
                    refine wpAnyH_ready (rs := [37]) (by as_aux_lemma => kernel_rfl) (by simp) ?_
                    refine AllReadyH.cons (o := ⟨some 119, _, _, _, _, _⟩) rfl (fun K hK => ?_) ?_
                    ·rw [if_pos (by as_aux_lemma => kernel_rfl)]
                     go_simp
                     refine (HLS.out _ hH2.1).mono ?_
                     rintro e wy37 ⟨rfl, hby37⟩
                     refine hK.out _ _ (⟨hH2.1.trans (hby37.mono hH2.1.size), cellsAt_below hH2.2.1 hby37, cellsAt_below hH2.2.2.1 hby37, cellsAt_below hH2.2.2.2.1 hby37, cellsAt_below hH2.2.2.2.2.1 hby37, cellsAt_below hH2.2.2.2.2.2.1 hby37, cellsAt_below hH2.2.2.2.2.2.2 hby37⟩) (fun hH3 => ?_)
                     clear hK K
                     try simp only [sT, sZ, sS]
                     refine tk1 38 ⟨some 120, _, _, _, _, _⟩ ?_ rfl hH3 ?_ ?_
                     rotate_left
                     ·(intro w hSw; (try dsimp only at hSw); go_simp; first | done | with_reducible rfl)
                     try simp only [Act.put, sT, sZ, sS]
                     refine tk1 39 ⟨some 121, _, _, _, _, _⟩ ?_ rfl hH3 ?_ ?_
                     rotate_left
                     ·(intro w hSw; (try dsimp only at hSw); go_simp; first | done | with_reducible rfl)
                     try simp only [Act.put, sT, sZ, sS]
                     refine tk1 40 ⟨some 122, _, _, _, _, _⟩ ?_ rfl hH3 ?_ ?_
                     rotate_left
                     ·(intro w hSw; (try dsimp only at hSw); go_simp; first | done | with_reducible rfl)
                     try simp only [Act.put, sT, sZ, sS]
                     refine tk1 41 ⟨some 123, _, _, _, _, _⟩ ?_ rfl hH3 ?_ ?_
                     rotate_left
                     ·(intro w hSw; (try dsimp only at hSw); go_simp; first | done | with_reducible rfl)
                     try simp only [Act.put, sT, sZ, sS]
                     refine tk1 42 ⟨some 124, _, _, _, _, _⟩ ?_ rfl hH3 ?_ ?_
                     rotate_left
                     ·(intro w hSw; (try dsimp only at hSw); go_simp; first | done | with_reducible rfl)
                     try simp only [Act.put, sT, sZ, sS]
                     refine tk1 43 ⟨some 125, _, _, _, _, _⟩ ?_ rfl hH3 ?_ ?_
                     rotate_left
                     ·(intro w hSw; (try dsimp only at hSw); go_simp; first | done | with_reducible rfl)
                     try simp only [Act.put, sT, sZ, sS]
                     refine tk1 44 ⟨some 126, _, _, _, _, _⟩ ?_ rfl hH3 ?_ ?_
                     rotate_left
                     ·(intro w hSw; (try dsimp only at hSw); go_simp; first | done | with_reducible rfl)
                     try simp only [Act.put, sT, sZ, sS]
                     refine tk0 45 ⟨some 127, _, _, _, _, _⟩ rfl hH3 ?_
                     try simp only [Act.put, sT, sZ, sS]
                     refine tk0 46 ⟨some 128, _, _, _, _, _⟩ rfl hH3 ?_
                     try simp only [Act.put, sT, sZ, sS]
                     refine tk0 47 ⟨some 129, _, _, _, _, _⟩ rfl hH3 ?_
                     try simp only [Act.put, sT, sZ, sS]
                     refine tk0 48 ⟨some 130, _, _, _, _, _⟩ rfl hH3 ?_
                     try simp only [Act.put, sT, sZ, sS]
                     refine tk0 49 ⟨some 131, _, _, _, _, _⟩ rfl hH3 ?_
                     try simp only [Act.put, sT, sZ, sS]
                     refine tk0 50 ⟨some 132, _, _, _, _, _⟩ rfl hH3 ?_
                     try simp only [Act.put, sT, sZ, sS]
                     refine tk0 51 ⟨some 133, _, _, _, _, _⟩ rfl hH3 ?_
                     try simp only [Act.put, sT, sZ, sS]
                     refine tk0 52 ⟨some 134, _, _, _, _, _⟩ rfl hH3 ?_
                     try simp only [Act.put, sT, sZ, sS]
                     refine tk0 53 ⟨some 135, _, _, _, _, _⟩ rfl hH3 ?_
                     try simp only [Act.put, sT, sZ, sS]
                     refine tk0 54 ⟨some 136, _, _, _, _, _⟩ rfl hH3 ?_
                     try simp only [Act.put, sT, sZ, sS]
                     refine tk1 55 ⟨some 137, _, _, _, _, _⟩ ?_ rfl hH3 ?_ ?_
                     rotate_left
                     ·(intro w hSw; (try dsimp only at hSw); go_simp; first | done | with_reducible rfl)
                     try simp only [Act.put, sT, sZ, sS]
                     refine tk1 56 ⟨some 138, _, _, _, _, _⟩ ?_ rfl hH3 ?_ ?_
                     rotate_left
                     ·(intro w hSw; (try dsimp only at hSw); go_simp; first | done | with_reducible rfl)
                     try simp only [Act.put, sT, sZ, sS]
                     refine wpAnyH_done (by as_aux_lemma => kernel_rfl) ?_ _
                     go_wp2_with fail
                     go_meet
                     exact ⟨by first | rfl | simp, hH3.1⟩
                    exact AllReadyH.nil
                   exact AllReadyH.nil
                  exact AllReadyH.nil
                case rest =>
                 rename World => wc
                 obtain ⟨rfl, hcut⟩ := hcut
                 have HBX := Lib.hid hcut
                 have HBC2 := Lib.hid (HBC.out.trans (hcut.mono HBC.out.size))
                 clear hcut t0 t1 t2 t3 t4 t5
                 have HBRC := Lib.hid (HBCR.out.trans (HBX.out.mono HBCR.out.size))
                 have HROW := Lib.hid ((HOW.out.read H4.out).below HBRC.out)
                 have HWD := Lib.hid (Below.refl wc.heap.size wc)
                 go_wp2_with fail
                 have HN6 : Hid (i ≤ 64) := Lib.hid (by have := HIN.out; have := HNL.out; omega)
                 have HPB := Lib.hid (And.intro HFX.out.2.2.2.1 HFX.out.2.2.2.2)
                 go_loopg [9] i (fun k vi wq => ∃ j : Nat, j + k = i ∧ vi = .int .i64 (j : Int) ∧ (ts.take j).any (overTab (tabAt l i)) = false ∧ Below wc.heap.size wc wq)
                 case atStart => exact ⟨0, by omega, rfl, rfl, HWD.out⟩
                 case round =>
                  rename World => wq
                  obtain ⟨j, hjk, rfl, hany, hbq⟩ := hrel
                  have HBQ := Lib.hid hbq
                  have HANY := Lib.hid hany
                  have HJK := Lib.hid hjk
                  obtain ⟨t0, t1, t2, t3, t4, t5⟩ := HT0.out
                  have t0 := cellsAt_below (cellsAt_below t0 HBX.out) hbq
                  have t1 := cellsAt_below (cellsAt_below t1 HBX.out) hbq
                  have t2 := cellsAt_below (cellsAt_below t2 HBX.out) hbq
                  have t3 := cellsAt_below (cellsAt_below t3 HBX.out) hbq
                  have t4 := cellsAt_below (cellsAt_below t4 HBX.out) hbq
                  have t5 := cellsAt_below (cellsAt_below t5 HBX.out) hbq
                  clear hany hjk hbq
                  by_cases hj : j = i
                  ·have bj : ((j : Int) < (i : Int)) = False := eq_false (by omega)
                   have bjn : (j < i) = False := eq_false (by omega)
                   have HNOV : Hid (ts.any (overTab (tabAt l i)) = false) := Lib.hid (by have := HANY.out; rw [hj, List.take_of_length_le (by have := HLEN.out; omega)] at this; exact this)
                   clear hj
                   have HBRQ := Lib.hid (HBRC.out.trans (HBQ.out.mono HBRC.out.size))
                   have HOE := Lib.hid (ownU_stays HOW.out HBRQ.out)
                   have HBEW := Lib.hid (HBC2.out.trans (HBQ.out.mono HBC2.out.size))
                   have HCT6 : Hid (∀ k, k < 6 → (wq.alloc (.cells #[.int .u8 x0, .int .u8 x1, .int .u8 x2, .int .u8 x3, .int .i64 (p : Int), .int .i64 (m : Int)] 62)).cell? ⟨wq.heap.size, k, none⟩ = (cellsT ([x0, x1, x2, x3], (p : Int), (m : Int)))[k]?) := Lib.hid (fun k hk => by
                    rw [cell_of_row _ wq.heap.size k _ _ _ (heap_alloc_new wq _)]
                    rw [← Array.getElem?_toList]; rfl)
                   have HSZE := Lib.hid (Nat.le_trans HBEW.out.size (Nat.le_of_lt (heap_more wq (.cells #[.int .u8 x0, .int .u8 x1, .int .u8 x2, .int .u8 x3, .int .i64 (p : Int), .int .i64 (m : Int)] 62))))
                   have HNX : Hid (tabsL l n (i + 1) = some (ts ++ [([x0, x1, x2, x3], (p : Int), (m : Int))])) := Lib.hid (by rw [tabsL_step l n i ts HTAB.out HBAD.out HNOV.out, HTA.out])
                   go_wp2_with (at_builtin; refine wp_append_u rfl _ _ rfl w.heap.size _ ts rfl (ownU_stays HOE.out (below_alloc _ (Below.refl _ _))) wq.heap.size ([x0, x1, x2, x3], (p : Int), (m : Int)) rfl rfl HCT6.out (by have := HLEN.out; have := HN6.out; omega) HSZE.out ?_)
                   intro v7 w7 how7 hk7
                   have HNEW : Hid (URel w l n (kk - 1) v7 (.int .i64 ((i + 1 : Nat) : Int)) w7) := Lib.hid ⟨v7, i + 1, _, rfl, by have := HIK.out; have := HKK.out; have := HIN.out; omega, rfl, how7, HNX.out, hk7 _ (HBEW.out.alloc HBEW.out.size _)⟩
                   clear how7 hk7 t0 t1 t2 t3 t4 t5
                   go_wp2_with fail
                   go_roundg (kk - 1)
                   case measure => have := HIK.out; have := HKK.out; have := HIN.out; omega
                   case rel => exact HNEW.out
                  ·exact absurd (by have := HJK.out; have := HI0.out; omega) hj
               ·have b7 : ((0 : Int) < (i : Int)) = True := eq_true (by omega)
                have b7n : (0 < i) = True := eq_true (by omega)
                obtain ⟨i1, hi1⟩ : ∃ i1, i1 = i - 1 := ⟨_, rfl⟩
                have hil : i1 < ts.length := by have := HLEN.out; omega
                obtain ⟨A2, c2, e2, _, _, hcs⟩ := (HOW.out.read H4.out).below (HBCR.out)
                injection e2 with e3 e4 e5
                subst e3
                clear e4 e5
                obtain ⟨gT, rfl, _, hcs⟩ := hcs (by rintro rfl; simp at hil)
                have hts : ts[i1] = tabAt l i1 := by
                 have h := tabsL_len l n i ts HTAB.out
                 subst h
                 simp
                obtain ⟨y0, y1, y2, y3, hy⟩ : ∃ y0 y1 y2 y3, (tabAt l i1).1 = [y0, y1, y2, y3] := ⟨_, _, _, _, rfl⟩
                have hpc : ∀ j u, [Value.int .u8 y0, .int .u8 y1, .int .u8 y2, .int .u8 y3][j]? = some u → wt.cell? ⟨gT, i1 * 6 + j, none⟩ = some u := fun j u hj => by
                 have hj4 : j < 4 := by
                  rcases Nat.lt_or_ge j 4 with h | h
                  ·exact h
                  ·rw [List.getElem?_eq_none (by simpa using h)] at hj; cases hj
                 rw [Nat.mul_comm i1 6, hcs i1 j hil (by omega), hts]
                 unfold cellsT
                 rw [List.getElem?_append_left (by rw [hy]; simpa using hj4), hy]
                 exact hj
                have p0 := hpc 0 _ rfl
                have p1 := hpc 1 _ rfl
                have p2 := hpc 2 _ rfl
                have p3 := hpc 3 _ rfl
                rw [Nat.add_zero] at p0
                have qi : IntKind.i64.wrap ((i : Int) - 1) = (i1 : Int) := by rw [IntKind.wrap_i64]; have := HIN.out; have := HBN.out; have := HBGE.out; have := HN.out; have := HL.out; omega
                have j0 : (0 : Int) ≤ (i1 : Int) := Int.natCast_nonneg _
                have jN : (i1 : Int) < (i : Int) := by omega
                obtain ⟨lt, hlt⟩ : ∃ lt, lt = lessL [y0, y1, y2, y3] [x0, x1, x2, x3] := ⟨_, rfl⟩
                have hgd : (ts.getD (i - 1) ([], 0, 0)).1 = [y0, y1, y2, y3] := by
                 rw [← hi1, List.getD_eq_getElem?_getD, List.getElem?_eq_getElem hil, Option.getD_some, hts, hy]
                have HLE : Hid (∀ wx, Below wt.heap.size wt wx → Calls Try.prog 30 #[.agg #[.int .u8 y0, .int .u8 y1, .int .u8 y2, .int .u8 y3], .agg #[.int .u8 x0, .int .u8 x1, .int .u8 x2, .int .u8 x3]] wx fun e w' => e = .returned (.bool lt) ∧ Below wx.heap.size wx w') := Lib.hid (fun wx _ => by rw [hlt]; exact less_any wx [y0, y1, y2, y3] [x0, x1, x2, x3] rfl rfl)
                cases lt with
                | true =>
                 have HBAD : Hid (badTab l n i ts = false) := Lib.hid (by rw [HBT.out, hgd, htx, ← hlt]; simp [g1, g2, g3])
                 clear hpm hpe hat hi16 hN16 hpb hmb hNl hN6b hat4w hY hYb hZ hV hal htx hbx g1 g2 g3 h0 hal2 hi1 hil hcs hts hy hpc hlt hgd
                 go_upto_region 10 with fail
                 go_cut [138] from 82 to 187 (fun s138 wx => s138 = .bool false ∧ Below wt.heap.size wt wx)
                 case first =>
                  as_aux_lemma =>
                   refine wp_region_held_drew (S := fun w' => Below wt.heap.size wt w' ∧ w'.cell? ⟨X, 0, none⟩ = some (.int .u8 x0) ∧ w'.cell? ⟨X, 1, none⟩ = some (.int .u8 x1) ∧ w'.cell? ⟨X, 2, none⟩ = some (.int .u8 x2) ∧ w'.cell? ⟨X, 3, none⟩ = some (.int .u8 x3) ∧ w'.cell? ⟨X, 4, none⟩ = some (.int .i64 (p : Int)) ∧ w'.cell? ⟨X, 5, none⟩ = some (.int .i64 (m : Int)) ∧ w'.cell? ⟨gT, i1 * 6, none⟩ = some (.int .u8 y0) ∧ w'.cell? ⟨gT, i1 * 6 + 1, none⟩ = some (.int .u8 y1) ∧ w'.cell? ⟨gT, i1 * 6 + 2, none⟩ = some (.int .u8 y2) ∧ w'.cell? ⟨gT, i1 * 6 + 3, none⟩ = some (.int .u8 y3)) (by as_aux_lemma => kernel_rfl) (⟨(Below.refl _ wt).drew, t0, t1, t2, t3, t4, t5, p0, p1, p2, p3⟩) (fun hH0 => ?_)
                   change wpAnyH _ _ _ _ _ 57 #[false, false, false, false, false, false, false, false, false, false, false, false, false, false, false, false, false, false, false, false, false, false, false, false, false, false, false, false, false, false, false, false, false, false, false, false, false, false, false, false, false, false, false, false, false, false, false, false, false, false, false, false, false, false, false, false, false] _ _
                   refine tk1 0 ⟨some 82, _, _, _, _, _⟩ ?_ rfl hH0 ?_ ?_
                   rotate_left
                   ·(intro w hSw; (try dsimp only at hSw); go_simp; first | done | with_reducible rfl)
                   try simp only [Act.put, sT, sZ, sS]
                   refine tk1 1 ⟨some 83, _, _, _, _, _⟩ ?_ rfl hH0 ?_ ?_
                   rotate_left
                   ·(intro w hSw; (try dsimp only at hSw); go_simp; first | done | with_reducible rfl)
                   try simp only [Act.put, sT, sZ, sS]
                   refine tk1 2 ⟨some 84, _, _, _, _, _⟩ ?_ rfl hH0 ?_ ?_
                   rotate_left
                   ·(intro w hSw; (try dsimp only at hSw); go_simp; first | done | with_reducible rfl)
                   try simp only [Act.put, sT, sZ, sS]
                   refine tk1 3 ⟨some 85, _, _, _, _, _⟩ ?_ rfl hH0 ?_ ?_
                   rotate_left
                   ·(intro w hSw; (try dsimp only at hSw); go_simp; first | done | with_reducible rfl)
                   try simp only [Act.put, sT, sZ, sS]
                   refine tk1 4 ⟨some 86, _, _, _, _, _⟩ ?_ rfl hH0 ?_ ?_
                   rotate_left
                   ·(intro w hSw; (try dsimp only at hSw); go_simp; first | done | with_reducible rfl)
                   try simp only [Act.put, sT, sZ, sS]
                   refine tk1 5 ⟨some 87, _, _, _, _, _⟩ ?_ rfl hH0 ?_ ?_
                   rotate_left
                   ·(intro w hSw; (try dsimp only at hSw); go_simp; first | done | with_reducible rfl)
                   try simp only [Act.put, sT, sZ, sS]
                   refine tk1 6 ⟨some 88, _, _, _, _, _⟩ ?_ rfl hH0 ?_ ?_
                   rotate_left
                   ·(intro w hSw; (try dsimp only at hSw); go_simp; first | done | with_reducible rfl)
                   try simp only [Act.put, sT, sZ, sS]
                   refine tk1 7 ⟨some 89, _, _, _, _, _⟩ ?_ rfl hH0 ?_ ?_
                   rotate_left
                   ·(intro w hSw; (try dsimp only at hSw); go_simp; first | done | with_reducible rfl)
                   try simp only [Act.put, sT, sZ, sS]
                   refine tk1 8 ⟨some 90, _, _, _, _, _⟩ ?_ rfl hH0 ?_ ?_
                   rotate_left
                   ·(intro w hSw; (try dsimp only at hSw); go_simp; first | done | with_reducible rfl)
                   try simp only [Act.put, sT, sZ, sS]
                   refine tk1 9 ⟨some 91, _, _, _, _, _⟩ ?_ rfl hH0 ?_ ?_
                   rotate_left
                   ·(intro w hSw; (try dsimp only at hSw); go_simp; first | done | with_reducible rfl)
                   try simp only [Act.put, sT, sZ, sS]
                   refine tk1 10 ⟨some 92, _, _, _, _, _⟩ ?_ rfl hH0 ?_ ?_
                   rotate_left
                   ·(intro w hSw; (try dsimp only at hSw); go_simp; first | done | with_reducible rfl)
                   try simp only [Act.put, sT, sZ, sS]
                   refine tk1 11 ⟨some 93, _, _, _, _, _⟩ ?_ rfl hH0 ?_ ?_
                   rotate_left
                   ·(intro w hSw; (try dsimp only at hSw); go_simp; first | done | with_reducible rfl)
                   try simp only [Act.put, sT, sZ, sS]
                   refine tk1 12 ⟨some 94, _, _, _, _, _⟩ ?_ rfl hH0 ?_ ?_
                   rotate_left
                   ·(intro w hSw; (try dsimp only at hSw); go_simp; first | done | with_reducible rfl)
                   try simp only [Act.put, sT, sZ, sS]
                   refine tk1 13 ⟨some 95, _, _, _, _, _⟩ ?_ rfl hH0 ?_ ?_
                   rotate_left
                   ·(intro w hSw; (try dsimp only at hSw); go_simp; first | done | with_reducible rfl)
                   try simp only [Act.put, sT, sZ, sS]
                   refine tk1 14 ⟨some 96, _, _, _, _, _⟩ ?_ rfl hH0 ?_ ?_
                   rotate_left
                   ·(intro w hSw; (try dsimp only at hSw); go_simp; first | done | with_reducible rfl)
                   try simp only [Act.put, sT, sZ, sS]
                   refine tk1 15 ⟨some 97, _, _, _, _, _⟩ ?_ rfl hH0 ?_ ?_
                   rotate_left
                   ·(intro w hSw; (try dsimp only at hSw); go_simp; first | done | with_reducible rfl)
                   try simp only [Act.put, sT, sZ, sS]
                   refine tk1 16 ⟨some 98, _, _, _, _, _⟩ ?_ rfl hH0 ?_ ?_
                   rotate_left
                   ·(intro w hSw; (try dsimp only at hSw); go_simp; first | done | with_reducible rfl)
                   try simp only [Act.put, sT, sZ, sS]
                   refine tk1 17 ⟨some 99, _, _, _, _, _⟩ ?_ rfl hH0 ?_ ?_
                   rotate_left
                   ·(intro w hSw; (try dsimp only at hSw); go_simp; first | done | with_reducible rfl)
                   try simp only [Act.put, sT, sZ, sS]
                   refine wpAnyH_ready (rs := [18]) (by as_aux_lemma => kernel_rfl) (by simp) ?_
                   refine AllReadyH.cons (o := ⟨some 100, _, _, _, _, _⟩) rfl (fun K hK => ?_) ?_
                   ·rw [if_pos (by as_aux_lemma => kernel_rfl)]
                    go_simp
                    refine (HALL.out _).mono ?_
                    rintro e wq ⟨rfl, rfl⟩
                    refine hK.out _ _ (hH0) (fun hH1 => ?_)
                    clear hK K
                    try simp only [sT, sZ, sS]
                    refine tk1 19 ⟨some 101, _, _, _, _, _⟩ ?_ rfl hH1 ?_ ?_
                    rotate_left
                    ·(intro w hSw; (try dsimp only at hSw); go_simp; first | done | with_reducible rfl)
                    try simp only [Act.put, sT, sZ, sS]
                    refine tk1 20 ⟨some 102, _, _, _, _, _⟩ ?_ rfl hH1 ?_ ?_
                    rotate_left
                    ·(intro w hSw; (try dsimp only at hSw); go_simp; first | done | with_reducible rfl)
                    try simp only [Act.put, sT, sZ, sS]
                    refine tk1 21 ⟨some 103, _, _, _, _, _⟩ ?_ rfl hH1 ?_ ?_
                    rotate_left
                    ·(intro w hSw; (try dsimp only at hSw); go_simp; first | done | with_reducible rfl)
                    try simp only [Act.put, sT, sZ, sS]
                    refine tk1 22 ⟨some 104, _, _, _, _, _⟩ ?_ rfl hH1 ?_ ?_
                    rotate_left
                    ·(intro w hSw; (try dsimp only at hSw); go_simp; first | done | with_reducible rfl)
                    try simp only [Act.put, sT, sZ, sS]
                    refine tk1 23 ⟨some 105, _, _, _, _, _⟩ ?_ rfl hH1 ?_ ?_
                    rotate_left
                    ·(intro w hSw; (try dsimp only at hSw); go_simp; first | done | with_reducible rfl)
                    try simp only [Act.put, sT, sZ, sS]
                    refine tk1 24 ⟨some 106, _, _, _, _, _⟩ ?_ rfl hH1 ?_ ?_
                    rotate_left
                    ·(intro w hSw; (try dsimp only at hSw); go_simp; first | done | with_reducible rfl)
                    try simp only [Act.put, sT, sZ, sS]
                    refine tk1 25 ⟨some 107, _, _, _, _, _⟩ ?_ rfl hH1 ?_ ?_
                    rotate_left
                    ·(intro w hSw; (try dsimp only at hSw); go_simp; first | done | with_reducible rfl)
                    try simp only [Act.put, sT, sZ, sS]
                    refine tk1 26 ⟨some 108, _, _, _, _, _⟩ ?_ rfl hH1 ?_ ?_
                    rotate_left
                    ·(intro w hSw; (try dsimp only at hSw); go_simp; first | done | with_reducible rfl)
                    try simp only [Act.put, sT, sZ, sS]
                    refine tk1 27 ⟨some 109, _, _, _, _, _⟩ ?_ rfl hH1 ?_ ?_
                    rotate_left
                    ·(intro w hSw; (try dsimp only at hSw); go_simp; first | done | with_reducible rfl)
                    try simp only [Act.put, sT, sZ, sS]
                    refine tk1 28 ⟨some 110, _, _, _, _, _⟩ ?_ rfl hH1 ?_ ?_
                    rotate_left
                    ·(intro w hSw; (try dsimp only at hSw); go_simp; first | done | with_reducible rfl)
                    try simp only [Act.put, sT, sZ, sS]
                    refine tk1 29 ⟨some 111, _, _, _, _, _⟩ ?_ rfl hH1 ?_ ?_
                    rotate_left
                    ·(intro w hSw; (try dsimp only at hSw); go_simp; first | done | with_reducible rfl)
                    try simp only [Act.put, sT, sZ, sS]
                    refine tk1 30 ⟨some 112, _, _, _, _, _⟩ ?_ rfl hH1 ?_ ?_
                    rotate_left
                    ·(intro w hSw; (try dsimp only at hSw); go_simp; first | done | with_reducible rfl)
                    try simp only [Act.put, sT, sZ, sS]
                    refine tk1 31 ⟨some 113, _, _, _, _, _⟩ ?_ rfl hH1 ?_ ?_
                    rotate_left
                    ·(intro w hSw; (try dsimp only at hSw); go_simp; first | done | with_reducible rfl)
                    try simp only [Act.put, sT, sZ, sS]
                    refine tk1 32 ⟨some 114, _, _, _, _, _⟩ ?_ rfl hH1 ?_ ?_
                    rotate_left
                    ·(intro w hSw; (try dsimp only at hSw); go_simp; first | done | with_reducible rfl)
                    try simp only [Act.put, sT, sZ, sS]
                    refine tk1 34 ⟨some 116, _, _, _, _, _⟩ ?_ rfl hH1 ?_ ?_
                    rotate_left
                    ·(intro w hSw; (try dsimp only at hSw); go_simp; first | done | with_reducible rfl)
                    try simp only [Act.put, sT, sZ, sS]
                    refine tk1 35 ⟨some 117, _, _, _, _, _⟩ ?_ rfl hH1 ?_ ?_
                    rotate_left
                    ·(intro w hSw; (try dsimp only at hSw); go_simp; first | done | with_reducible rfl)
                    try simp only [Act.put, sT, sZ, sS]
                    refine tk1 36 ⟨some 118, _, _, _, _, _⟩ ?_ rfl hH1 ?_ ?_
                    rotate_left
                    ·(intro w hSw; (try dsimp only at hSw); go_simp; first | done | with_reducible rfl)
                    try simp only [Act.put, sT, sZ, sS]
                    refine wpAnyH_ready (rs := [33]) (by as_aux_lemma => kernel_rfl) (by simp) ?_
                    refine AllReadyH.cons (o := ⟨some 115, _, _, _, _, _⟩) rfl (fun K hK => ?_) ?_
                    ·rw [if_pos (by as_aux_lemma => kernel_rfl)]
                     go_simp
                     refine (HSU.out _ hH1.1).mono ?_
                     rintro e wy33 ⟨rfl, hby33⟩
                     refine hK.out _ _ (⟨hH1.1.trans (hby33.mono hH1.1.size), cellsAt_below hH1.2.1 hby33, cellsAt_below hH1.2.2.1 hby33, cellsAt_below hH1.2.2.2.1 hby33, cellsAt_below hH1.2.2.2.2.1 hby33, cellsAt_below hH1.2.2.2.2.2.1 hby33, cellsAt_below hH1.2.2.2.2.2.2.1 hby33, cellsAt_below hH1.2.2.2.2.2.2.2.1 hby33, cellsAt_below hH1.2.2.2.2.2.2.2.2.1 hby33, cellsAt_below hH1.2.2.2.2.2.2.2.2.2.1 hby33, cellsAt_below hH1.2.2.2.2.2.2.2.2.2.2 hby33⟩) (fun hH2 => ?_)
                     clear hK K
                     try simp only [sT, sZ, sS]
                     refine wpAnyH_ready (rs := [37]) (by as_aux_lemma => kernel_rfl) (by simp) ?_
                     refine AllReadyH.cons (o := ⟨some 119, _, _, _, _, _⟩) rfl (fun K hK => ?_) ?_
                     ·rw [if_pos (by as_aux_lemma => kernel_rfl)]
                      go_simp
                      refine (HLS.out _ hH2.1).mono ?_
                      rintro e wy37 ⟨rfl, hby37⟩
                      refine hK.out _ _ (⟨hH2.1.trans (hby37.mono hH2.1.size), cellsAt_below hH2.2.1 hby37, cellsAt_below hH2.2.2.1 hby37, cellsAt_below hH2.2.2.2.1 hby37, cellsAt_below hH2.2.2.2.2.1 hby37, cellsAt_below hH2.2.2.2.2.2.1 hby37, cellsAt_below hH2.2.2.2.2.2.2.1 hby37, cellsAt_below hH2.2.2.2.2.2.2.2.1 hby37, cellsAt_below hH2.2.2.2.2.2.2.2.2.1 hby37, cellsAt_below hH2.2.2.2.2.2.2.2.2.2.1 hby37, cellsAt_below hH2.2.2.2.2.2.2.2.2.2.2 hby37⟩) (fun hH3 => ?_)
                      clear hK K
                      try simp only [sT, sZ, sS]
                      refine tk1 38 ⟨some 120, _, _, _, _, _⟩ ?_ rfl hH3 ?_ ?_
                      rotate_left
                      ·(intro w hSw; (try dsimp only at hSw); go_simp; first | done | with_reducible rfl)
                      try simp only [Act.put, sT, sZ, sS]
                      refine tk1 39 ⟨some 121, _, _, _, _, _⟩ ?_ rfl hH3 ?_ ?_
                      rotate_left
                      ·(intro w hSw; (try dsimp only at hSw); go_simp; first | done | with_reducible rfl)
                      try simp only [Act.put, sT, sZ, sS]
                      refine tk1 40 ⟨some 122, _, _, _, _, _⟩ ?_ rfl hH3 ?_ ?_
                      rotate_left
                      ·(intro w hSw; (try dsimp only at hSw); go_simp; first | done | with_reducible rfl)
                      try simp only [Act.put, sT, sZ, sS]
                      refine tk1 41 ⟨some 123, _, _, _, _, _⟩ ?_ rfl hH3 ?_ ?_
                      rotate_left
                      ·(intro w hSw; (try dsimp only at hSw); go_simp; first | done | with_reducible rfl)
                      try simp only [Act.put, sT, sZ, sS]
                      refine tk1 42 ⟨some 124, _, _, _, _, _⟩ ?_ rfl hH3 ?_ ?_
                      rotate_left
                      ·(intro w hSw; (try dsimp only at hSw); go_simp; first | done | with_reducible rfl)
                      try simp only [Act.put, sT, sZ, sS]
                      refine tk1 43 ⟨some 125, _, _, _, _, _⟩ ?_ rfl hH3 ?_ ?_
                      rotate_left
                      ·(intro w hSw; (try dsimp only at hSw); go_simp; first | done | with_reducible rfl)
                      try simp only [Act.put, sT, sZ, sS]
                      refine tk1 44 ⟨some 126, _, _, _, _, _⟩ ?_ rfl hH3 ?_ ?_
                      rotate_left
                      ·(intro w hSw; (try dsimp only at hSw); go_simp; first | done | with_reducible rfl)
                      try simp only [Act.put, sT, sZ, sS]
                      refine tk1 45 ⟨some 127, _, _, _, _, _⟩ ?_ rfl hH3 ?_ ?_
                      rotate_left
                      ·(intro w hSw; (try dsimp only at hSw); go_simp; first | done | with_reducible rfl)
                      try simp only [Act.put, sT, sZ, sS]
                      refine tk1 46 ⟨some 128, _, _, _, _, _⟩ ?_ rfl hH3 ?_ ?_
                      rotate_left
                      ·(intro w hSw; (try dsimp only at hSw); go_simp; first | done | with_reducible rfl)
                      try simp only [Act.put, sT, sZ, sS]
                      refine tk1 47 ⟨some 129, _, _, _, _, _⟩ ?_ rfl hH3 ?_ ?_
                      rotate_left
                      ·(intro w hSw; (try dsimp only at hSw); go_simp; first | done | with_reducible rfl)
                      try simp only [Act.put, sT, sZ, sS]
                      refine tk1 48 ⟨some 130, _, _, _, _, _⟩ ?_ rfl hH3 ?_ ?_
                      rotate_left
                      ·(intro w hSw; (try dsimp only at hSw); go_simp; first | done | with_reducible rfl)
                      try simp only [Act.put, sT, sZ, sS]
                      refine tk1 49 ⟨some 131, _, _, _, _, _⟩ ?_ rfl hH3 ?_ ?_
                      rotate_left
                      ·(intro w hSw; (try dsimp only at hSw); go_simp; first | done | with_reducible rfl)
                      try simp only [Act.put, sT, sZ, sS]
                      refine tk1 50 ⟨some 132, _, _, _, _, _⟩ ?_ rfl hH3 ?_ ?_
                      rotate_left
                      ·(intro w hSw; (try dsimp only at hSw); go_simp; first | done | with_reducible rfl)
                      try simp only [Act.put, sT, sZ, sS]
                      refine tk1 51 ⟨some 133, _, _, _, _, _⟩ ?_ rfl hH3 ?_ ?_
                      rotate_left
                      ·(intro w hSw; (try dsimp only at hSw); go_simp; first | done | with_reducible rfl)
                      try simp only [Act.put, sT, sZ, sS]
                      refine tk1 52 ⟨some 134, _, _, _, _, _⟩ ?_ rfl hH3 ?_ ?_
                      rotate_left
                      ·(intro w hSw; (try dsimp only at hSw); go_simp; first | done | with_reducible rfl)
                      try simp only [Act.put, sT, sZ, sS]
                      refine wpAnyH_ready (rs := [53]) (by as_aux_lemma => kernel_rfl) (by simp) ?_
                      refine AllReadyH.cons (o := ⟨some 135, _, _, _, _, _⟩) rfl (fun K hK => ?_) ?_
                      ·rw [if_pos (by as_aux_lemma => kernel_rfl)]
                       go_simp
                       refine (HLE.out _ hH3.1).mono ?_
                       rintro e wy53 ⟨rfl, hby53⟩
                       refine hK.out _ _ (⟨hH3.1.trans (hby53.mono hH3.1.size), cellsAt_below hH3.2.1 hby53, cellsAt_below hH3.2.2.1 hby53, cellsAt_below hH3.2.2.2.1 hby53, cellsAt_below hH3.2.2.2.2.1 hby53, cellsAt_below hH3.2.2.2.2.2.1 hby53, cellsAt_below hH3.2.2.2.2.2.2.1 hby53, cellsAt_below hH3.2.2.2.2.2.2.2.1 hby53, cellsAt_below hH3.2.2.2.2.2.2.2.2.1 hby53, cellsAt_below hH3.2.2.2.2.2.2.2.2.2.1 hby53, cellsAt_below hH3.2.2.2.2.2.2.2.2.2.2 hby53⟩) (fun hH4 => ?_)
                       clear hK K
                       try simp only [sT, sZ, sS]
                       refine tk1 54 ⟨some 136, _, _, _, _, _⟩ ?_ rfl hH4 ?_ ?_
                       rotate_left
                       ·(intro w hSw; (try dsimp only at hSw); go_simp; first | done | with_reducible rfl)
                       try simp only [Act.put, sT, sZ, sS]
                       refine tk1 55 ⟨some 137, _, _, _, _, _⟩ ?_ rfl hH4 ?_ ?_
                       rotate_left
                       ·(intro w hSw; (try dsimp only at hSw); go_simp; first | done | with_reducible rfl)
                       try simp only [Act.put, sT, sZ, sS]
                       refine tk1 56 ⟨some 138, _, _, _, _, _⟩ ?_ rfl hH4 ?_ ?_
                       rotate_left
                       ·(intro w hSw; (try dsimp only at hSw); go_simp; first | done | with_reducible rfl)
                       try simp only [Act.put, sT, sZ, sS]
                       refine wpAnyH_done (by as_aux_lemma => kernel_rfl) ?_ _
                       go_wp2_with fail
                       go_meet
                       exact ⟨by first | rfl | simp, hH4.1⟩
                      exact AllReadyH.nil
                     exact AllReadyH.nil
                    exact AllReadyH.nil
                   exact AllReadyH.nil
                 case rest =>
                  clear p0 p1 p2 p3 j0 jN qi HLE
                  rename World => wc
                  obtain ⟨rfl, hcut⟩ := hcut
                  have HBX := Lib.hid hcut
                  have HBC2 := Lib.hid (HBC.out.trans (hcut.mono HBC.out.size))
                  clear hcut t0 t1 t2 t3 t4 t5
                  have HBRC := Lib.hid (HBCR.out.trans (HBX.out.mono HBCR.out.size))
                  have HROW := Lib.hid ((HOW.out.read H4.out).below HBRC.out)
                  have HWD := Lib.hid (Below.refl wc.heap.size wc)
                  go_wp2_with fail
                  have HN6 : Hid (i ≤ 64) := Lib.hid (by have := HIN.out; have := HNL.out; omega)
                  have HPB := Lib.hid (And.intro HFX.out.2.2.2.1 HFX.out.2.2.2.2)
                  go_loopg [9] i (fun k vi wq => ∃ j : Nat, j + k = i ∧ vi = .int .i64 (j : Int) ∧ (ts.take j).any (overTab (tabAt l i)) = false ∧ Below wc.heap.size wc wq)
                  case atStart => exact ⟨0, by omega, rfl, rfl, HWD.out⟩
                  case round =>
                   rename World => wq
                   obtain ⟨j, hjk, rfl, hany, hbq⟩ := hrel
                   have HBQ := Lib.hid hbq
                   have HANY := Lib.hid hany
                   have HJK := Lib.hid hjk
                   obtain ⟨t0, t1, t2, t3, t4, t5⟩ := HT0.out
                   have t0 := cellsAt_below (cellsAt_below t0 HBX.out) hbq
                   have t1 := cellsAt_below (cellsAt_below t1 HBX.out) hbq
                   have t2 := cellsAt_below (cellsAt_below t2 HBX.out) hbq
                   have t3 := cellsAt_below (cellsAt_below t3 HBX.out) hbq
                   have t4 := cellsAt_below (cellsAt_below t4 HBX.out) hbq
                   have t5 := cellsAt_below (cellsAt_below t5 HBX.out) hbq
                   clear hany hjk hbq
                   by_cases hj : j = i
                   ·have bj : ((j : Int) < (i : Int)) = False := eq_false (by omega)
                    have bjn : (j < i) = False := eq_false (by omega)
                    have HNOV : Hid (ts.any (overTab (tabAt l i)) = false) := Lib.hid (by have := HANY.out; rw [hj, List.take_of_length_le (by have := HLEN.out; omega)] at this; exact this)
                    clear hj
                    have HBRQ := Lib.hid (HBRC.out.trans (HBQ.out.mono HBRC.out.size))
                    have HOE := Lib.hid (ownU_stays HOW.out HBRQ.out)
                    have HBEW := Lib.hid (HBC2.out.trans (HBQ.out.mono HBC2.out.size))
                    have HCT6 : Hid (∀ k, k < 6 → (wq.alloc (.cells #[.int .u8 x0, .int .u8 x1, .int .u8 x2, .int .u8 x3, .int .i64 (p : Int), .int .i64 (m : Int)] 62)).cell? ⟨wq.heap.size, k, none⟩ = (cellsT ([x0, x1, x2, x3], (p : Int), (m : Int)))[k]?) := Lib.hid (fun k hk => by
                     rw [cell_of_row _ wq.heap.size k _ _ _ (heap_alloc_new wq _)]
                     rw [← Array.getElem?_toList]; rfl)
                    have HSZE := Lib.hid (Nat.le_trans HBEW.out.size (Nat.le_of_lt (heap_more wq (.cells #[.int .u8 x0, .int .u8 x1, .int .u8 x2, .int .u8 x3, .int .i64 (p : Int), .int .i64 (m : Int)] 62))))
                    have HNX : Hid (tabsL l n (i + 1) = some (ts ++ [([x0, x1, x2, x3], (p : Int), (m : Int))])) := Lib.hid (by rw [tabsL_step l n i ts HTAB.out HBAD.out HNOV.out, HTA.out])
                    go_wp2_with (at_builtin; refine wp_append_u rfl _ _ rfl w.heap.size _ ts rfl (ownU_stays HOE.out (below_alloc _ (Below.refl _ _))) wq.heap.size ([x0, x1, x2, x3], (p : Int), (m : Int)) rfl rfl HCT6.out (by have := HLEN.out; have := HN6.out; omega) HSZE.out ?_)
                    intro v7 w7 how7 hk7
                    have HNEW : Hid (URel w l n (kk - 1) v7 (.int .i64 ((i + 1 : Nat) : Int)) w7) := Lib.hid ⟨v7, i + 1, _, rfl, by have := HIK.out; have := HKK.out; have := HIN.out; omega, rfl, how7, HNX.out, hk7 _ (HBEW.out.alloc HBEW.out.size _)⟩
                    clear how7 hk7 t0 t1 t2 t3 t4 t5
                    go_wp2_with fail
                    go_roundg (kk - 1)
                    case measure => have := HIK.out; have := HKK.out; have := HIN.out; omega
                    case rel => exact HNEW.out
                   ·have bj : ((j : Int) < (i : Int)) = True := eq_true (by have := HJK.out; omega)
                    have bjn : (j < i) = True := eq_true (by have := HJK.out; omega)
                    have j0 : (0 : Int) ≤ (j : Int) := Int.natCast_nonneg _
                    have jN : (j : Int) < (i : Int) := by have := HJK.out; omega
                    have qj : IntKind.i64.wrap ((j : Int) + 1) = ((j + 1 : Nat) : Int) := by rw [IntKind.wrap_i64]; have := HN6.out; omega
                    have hjl : j < ts.length := by have := HLEN.out; omega
                    obtain ⟨A2, c2, e2, _, _, hcs⟩ := HROW.out.below HBQ.out
                    injection e2 with e3 e4 e5
                    subst e3
                    clear e4 e5
                    obtain ⟨gT2, e7, _, hcs⟩ := hcs (by rintro rfl; simp at hjl)
                    injection e7 with e7
                    injection e7 with e7
                    subst e7
                    have hts : ts[j] = tabAt l j := by
                     have h := tabsL_len l n i ts HTAB.out
                     subst h
                     simp
                    obtain ⟨u0, u1, u2, u3, hu⟩ : ∃ u0 u1 u2 u3, (tabAt l j).1 = [u0, u1, u2, u3] := ⟨_, _, _, _, rfl⟩
                    have hqb := numAt_b HA.out ((12 + 16 * j + 8 : Nat) : Int) 4
                    have hnb := numAt_b HA.out ((12 + 16 * j + 12 : Nat) : Int) 4
                    obtain ⟨q2, hq2⟩ : ∃ q2 : Nat, (q2 : Int) = (tabAt l j).2.1 := ⟨(numAt l ((12 + 16 * j + 8 : Nat) : Int) 4).toNat, by show _ = numAt l ((12 + 16 * j + 8 : Nat) : Int) 4; omega⟩
                    obtain ⟨m2, hm2⟩ : ∃ m2 : Nat, (m2 : Int) = (tabAt l j).2.2 := ⟨(numAt l ((12 + 16 * j + 12 : Nat) : Int) 4).toNat, by show _ = numAt l ((12 + 16 * j + 12 : Nat) : Int) 4; omega⟩
                    have hq2b : (q2 : Int) < 4294967296 := by have h : (tabAt l j).2.1 = numAt l ((12 + 16 * j + 8 : Nat) : Int) 4 := rfl; omega
                    have hm2b : (m2 : Int) < 4294967296 := by have h : (tabAt l j).2.2 = numAt l ((12 + 16 * j + 12 : Nat) : Int) 4 := rfl; omega
                    have htj : tabAt l j = ([u0, u1, u2, u3], (q2 : Int), (m2 : Int)) := by rw [← hu, hq2, hm2]
                    have hpc : ∀ k u, (#[.int .u8 u0, .int .u8 u1, .int .u8 u2, .int .u8 u3, .int .i64 (q2 : Int), .int .i64 (m2 : Int)] : Array Value)[k]? = some u → wq.cell? ⟨gT, j * 6 + k, none⟩ = some u := fun k u hk => by
                     have hk6 : k < 6 := by
                      rcases Nat.lt_or_ge k 6 with h | h
                      ·exact h
                      ·rw [Array.getElem?_eq_none (by simpa using h)] at hk; cases hk
                     rw [Nat.mul_comm j 6, hcs j k hjl hk6, hts, htj]
                     rw [← Array.getElem?_toList] at hk
                     exact hk
                    have v4 := hpc 4 _ rfl
                    have v5 := hpc 5 _ rfl
                    have hpe := HPE.out
                    obtain ⟨qe2, hqe2⟩ : ∃ x, x = q2 + m2 := ⟨_, rfl⟩
                    have hPB := HPB.out
                    have qe4 : IntKind.i64.wrap ((q2 : Int) + (m2 : Int)) = (qe2 : Int) := by rw [IntKind.wrap_i64]; omega
                    have HTJ : Hid (ts.take (j + 1) = ts.take j ++ [([u0, u1, u2, u3], (q2 : Int), (m2 : Int))]) := Lib.hid (by rw [List.take_succ_eq_append_getElem hjl, hts, htj])
                    have HOV : Hid (overTab ([x0, x1, x2, x3], (p : Int), (m : Int)) ([u0, u1, u2, u3], (q2 : Int), (m2 : Int)) = (decide (0 < m) && (decide (0 < m2) && (decide (p < qe2) && decide (q2 < pe))))) := Lib.hid (by
                     unfold overTab
                     have e1 : decide ((0 : Int) < (m : Int)) = decide (0 < m) := decide_eq_decide.2 (by omega)
                     have e2 : decide ((0 : Int) < (m2 : Int)) = decide (0 < m2) := decide_eq_decide.2 (by omega)
                     have e3 : decide ((p : Int) < (q2 : Int) + (m2 : Int)) = decide (p < qe2) := decide_eq_decide.2 (by omega)
                     have e4 : decide ((q2 : Int) < (p : Int) + (m : Int)) = decide (q2 < pe) := decide_eq_decide.2 (by omega)
                     rw [e1, e2, e3, e4])
                    have HJN := Lib.hid hj
                    have HJL := Lib.hid hjl
                    clear hj hjl hcs hts hu hqb hnb hq2 hm2 hq2b hm2b htj hpc hpe hqe2 hPB t0 t1 t2 t3
                    by_cases h1 : 0 < m
                    ·have k1 : ((0 : Int) < (m : Int)) = True := eq_true (by omega)
                     have k1n : (0 < m) = True := eq_true (by omega)
                     by_cases h2 : 0 < m2
                     ·have k2 : ((0 : Int) < (m2 : Int)) = True := eq_true (by omega)
                      have k2n : (0 < m2) = True := eq_true (by omega)
                      by_cases h3 : p < qe2
                      ·have k3 : ((p : Int) < (qe2 : Int)) = True := eq_true (by omega)
                       have k3n : (p < qe2) = True := eq_true (by omega)
                       by_cases h4 : q2 < pe
                       ·have k4 : ((q2 : Int) < (pe : Int)) = True := eq_true (by omega)
                        have k4n : (q2 < pe) = True := eq_true (by omega)
                        have HQ : Hid (q = ([], 50)) := Lib.hid (HTS.out.2.1 HBF2.out (tabsL_bad l n i HIN.out ts HTAB.out (.inr (by
                         rw [← List.take_append_drop (j + 1) ts, List.any_append, HTJ.out, List.any_append, HTA.out]
                         simp [HOV.out, h1, h2, h3, h4]))))
                        clear h1 h2 h3 h4
                        go_upto_region 15 with fail
                        as_aux_lemma =>
                         refine wp_region_held_drew (S := fun w' => Below wq.heap.size wq w' ∧ w'.cell? ⟨X, 4, none⟩ = some (.int .i64 (p : Int)) ∧ w'.cell? ⟨X, 5, none⟩ = some (.int .i64 (m : Int)) ∧ w'.cell? ⟨gT, j * 6 + 4, none⟩ = some (.int .i64 (q2 : Int)) ∧ w'.cell? ⟨gT, j * 6 + 5, none⟩ = some (.int .i64 (m2 : Int))) (by as_aux_lemma => kernel_rfl) (⟨(Below.refl _ wq).drew, t4, t5, v4, v5⟩) (fun hH0 => ?_)
                         change wpAnyH _ _ _ _ _ 40 #[false, false, false, false, false, false, false, false, false, false, false, false, false, false, false, false, false, false, false, false, false, false, false, false, false, false, false, false, false, false, false, false, false, false, false, false, false, false, false, false] _ _
                         refine tk1 0 ⟨some 144, _, _, _, _, _⟩ ?_ rfl hH0 ?_ ?_
                         rotate_left
                         ·(intro w hSw; (try dsimp only at hSw); go_simp; first | done | with_reducible rfl)
                         try simp only [Act.put, sT, sZ, sS]
                         refine tk1 1 ⟨some 145, _, _, _, _, _⟩ ?_ rfl hH0 ?_ ?_
                         rotate_left
                         ·(intro w hSw; (try dsimp only at hSw); go_simp; first | done | with_reducible rfl)
                         try simp only [Act.put, sT, sZ, sS]
                         refine tk1 2 ⟨some 146, _, _, _, _, _⟩ ?_ rfl hH0 ?_ ?_
                         rotate_left
                         ·(intro w hSw; (try dsimp only at hSw); go_simp; first | done | with_reducible rfl)
                         try simp only [Act.put, sT, sZ, sS]
                         refine tk1 3 ⟨some 147, _, _, _, _, _⟩ ?_ rfl hH0 ?_ ?_
                         rotate_left
                         ·(intro w hSw; (try dsimp only at hSw); go_simp; first | done | with_reducible rfl)
                         try simp only [Act.put, sT, sZ, sS]
                         refine tk1 4 ⟨some 148, _, _, _, _, _⟩ ?_ rfl hH0 ?_ ?_
                         rotate_left
                         ·(intro w hSw; (try dsimp only at hSw); go_simp; first | done | with_reducible rfl)
                         try simp only [Act.put, sT, sZ, sS]
                         refine tk1 5 ⟨some 149, _, _, _, _, _⟩ ?_ rfl hH0 ?_ ?_
                         rotate_left
                         ·(intro w hSw; (try dsimp only at hSw); go_simp; first | done | with_reducible rfl)
                         try simp only [Act.put, sT, sZ, sS]
                         refine tk1 6 ⟨some 150, _, _, _, _, _⟩ ?_ rfl hH0 ?_ ?_
                         rotate_left
                         ·(intro w hSw; (try dsimp only at hSw); go_simp; first | done | with_reducible rfl)
                         try simp only [Act.put, sT, sZ, sS]
                         refine tk1 7 ⟨some 151, _, _, _, _, _⟩ ?_ rfl hH0 ?_ ?_
                         rotate_left
                         ·(intro w hSw; (try dsimp only at hSw); go_simp; first | done | with_reducible rfl)
                         try simp only [Act.put, sT, sZ, sS]
                         refine tk1 8 ⟨some 152, _, _, _, _, _⟩ ?_ rfl hH0 ?_ ?_
                         rotate_left
                         ·(intro w hSw; (try dsimp only at hSw); go_simp; first | done | with_reducible rfl)
                         try simp only [Act.put, sT, sZ, sS]
                         refine tk1 9 ⟨some 153, _, _, _, _, _⟩ ?_ rfl hH0 ?_ ?_
                         rotate_left
                         ·(intro w hSw; (try dsimp only at hSw); go_simp; first | done | with_reducible rfl)
                         try simp only [Act.put, sT, sZ, sS]
                         refine tk1 10 ⟨some 154, _, _, _, _, _⟩ ?_ rfl hH0 ?_ ?_
                         rotate_left
                         ·(intro w hSw; (try dsimp only at hSw); go_simp; first | done | with_reducible rfl)
                         try simp only [Act.put, sT, sZ, sS]
                         refine tk1 11 ⟨some 155, _, _, _, _, _⟩ ?_ rfl hH0 ?_ ?_
                         rotate_left
                         ·(intro w hSw; (try dsimp only at hSw); go_simp; first | done | with_reducible rfl)
                         try simp only [Act.put, sT, sZ, sS]
                         refine tk1 12 ⟨some 156, _, _, _, _, _⟩ ?_ rfl hH0 ?_ ?_
                         rotate_left
                         ·(intro w hSw; (try dsimp only at hSw); go_simp; first | done | with_reducible rfl)
                         try simp only [Act.put, sT, sZ, sS]
                         refine tk1 13 ⟨some 157, _, _, _, _, _⟩ ?_ rfl hH0 ?_ ?_
                         rotate_left
                         ·(intro w hSw; (try dsimp only at hSw); go_simp; first | done | with_reducible rfl)
                         try simp only [Act.put, sT, sZ, sS]
                         refine tk1 14 ⟨some 158, _, _, _, _, _⟩ ?_ rfl hH0 ?_ ?_
                         rotate_left
                         ·(intro w hSw; (try dsimp only at hSw); go_simp; first | done | with_reducible rfl)
                         try simp only [Act.put, sT, sZ, sS]
                         refine tk1 15 ⟨some 159, _, _, _, _, _⟩ ?_ rfl hH0 ?_ ?_
                         rotate_left
                         ·(intro w hSw; (try dsimp only at hSw); go_simp; first | done | with_reducible rfl)
                         try simp only [Act.put, sT, sZ, sS]
                         refine tk1 16 ⟨some 160, _, _, _, _, _⟩ ?_ rfl hH0 ?_ ?_
                         rotate_left
                         ·(intro w hSw; (try dsimp only at hSw); go_simp; first | done | with_reducible rfl)
                         try simp only [Act.put, sT, sZ, sS]
                         refine tk1 17 ⟨some 161, _, _, _, _, _⟩ ?_ rfl hH0 ?_ ?_
                         rotate_left
                         ·(intro w hSw; (try dsimp only at hSw); go_simp; first | done | with_reducible rfl)
                         try simp only [Act.put, sT, sZ, sS]
                         refine tk1 18 ⟨some 162, _, _, _, _, _⟩ ?_ rfl hH0 ?_ ?_
                         rotate_left
                         ·(intro w hSw; (try dsimp only at hSw); go_simp; first | done | with_reducible rfl)
                         try simp only [Act.put, sT, sZ, sS]
                         refine tk1 19 ⟨some 163, _, _, _, _, _⟩ ?_ rfl hH0 ?_ ?_
                         rotate_left
                         ·(intro w hSw; (try dsimp only at hSw); go_simp; first | done | with_reducible rfl)
                         try simp only [Act.put, sT, sZ, sS]
                         refine tk1 20 ⟨some 164, _, _, _, _, _⟩ ?_ rfl hH0 ?_ ?_
                         rotate_left
                         ·(intro w hSw; (try dsimp only at hSw); go_simp; first | done | with_reducible rfl)
                         try simp only [Act.put, sT, sZ, sS]
                         refine tk1 21 ⟨some 165, _, _, _, _, _⟩ ?_ rfl hH0 ?_ ?_
                         rotate_left
                         ·(intro w hSw; (try dsimp only at hSw); go_simp; first | done | with_reducible rfl)
                         try simp only [Act.put, sT, sZ, sS]
                         refine tk1 22 ⟨some 166, _, _, _, _, _⟩ ?_ rfl hH0 ?_ ?_
                         rotate_left
                         ·(intro w hSw; (try dsimp only at hSw); go_simp; first | done | with_reducible rfl)
                         try simp only [Act.put, sT, sZ, sS]
                         refine tk1 23 ⟨some 167, _, _, _, _, _⟩ ?_ rfl hH0 ?_ ?_
                         rotate_left
                         ·(intro w hSw; (try dsimp only at hSw); go_simp; first | done | with_reducible rfl)
                         try simp only [Act.put, sT, sZ, sS]
                         refine tk1 24 ⟨some 168, _, _, _, _, _⟩ ?_ rfl hH0 ?_ ?_
                         rotate_left
                         ·(intro w hSw; (try dsimp only at hSw); go_simp; first | done | with_reducible rfl)
                         try simp only [Act.put, sT, sZ, sS]
                         refine tk1 25 ⟨some 169, _, _, _, _, _⟩ ?_ rfl hH0 ?_ ?_
                         rotate_left
                         ·(intro w hSw; (try dsimp only at hSw); go_simp; first | done | with_reducible rfl)
                         try simp only [Act.put, sT, sZ, sS]
                         refine tk1 26 ⟨some 170, _, _, _, _, _⟩ ?_ rfl hH0 ?_ ?_
                         rotate_left
                         ·(intro w hSw; (try dsimp only at hSw); go_simp; first | done | with_reducible rfl)
                         try simp only [Act.put, sT, sZ, sS]
                         refine tk1 27 ⟨some 171, _, _, _, _, _⟩ ?_ rfl hH0 ?_ ?_
                         rotate_left
                         ·(intro w hSw; (try dsimp only at hSw); go_simp; first | done | with_reducible rfl)
                         try simp only [Act.put, sT, sZ, sS]
                         refine tk1 28 ⟨some 172, _, _, _, _, _⟩ ?_ rfl hH0 ?_ ?_
                         rotate_left
                         ·(intro w hSw; (try dsimp only at hSw); go_simp; first | done | with_reducible rfl)
                         try simp only [Act.put, sT, sZ, sS]
                         refine tk1 29 ⟨some 173, _, _, _, _, _⟩ ?_ rfl hH0 ?_ ?_
                         rotate_left
                         ·(intro w hSw; (try dsimp only at hSw); go_simp; first | done | with_reducible rfl)
                         try simp only [Act.put, sT, sZ, sS]
                         refine tk1 30 ⟨some 174, _, _, _, _, _⟩ ?_ rfl hH0 ?_ ?_
                         rotate_left
                         ·(intro w hSw; (try dsimp only at hSw); go_simp; first | done | with_reducible rfl)
                         try simp only [Act.put, sT, sZ, sS]
                         refine tk1 31 ⟨some 175, _, _, _, _, _⟩ ?_ rfl hH0 ?_ ?_
                         rotate_left
                         ·(intro w hSw; (try dsimp only at hSw); go_simp; first | done | with_reducible rfl)
                         try simp only [Act.put, sT, sZ, sS]
                         refine tk1 32 ⟨some 176, _, _, _, _, _⟩ ?_ rfl hH0 ?_ ?_
                         rotate_left
                         ·(intro w hSw; (try dsimp only at hSw); go_simp; first | done | with_reducible rfl)
                         try simp only [Act.put, sT, sZ, sS]
                         refine tk1 33 ⟨some 177, _, _, _, _, _⟩ ?_ rfl hH0 ?_ ?_
                         rotate_left
                         ·(intro w hSw; (try dsimp only at hSw); go_simp; first | done | with_reducible rfl)
                         try simp only [Act.put, sT, sZ, sS]
                         refine tk1 34 ⟨some 178, _, _, _, _, _⟩ ?_ rfl hH0 ?_ ?_
                         rotate_left
                         ·(intro w hSw; (try dsimp only at hSw); go_simp; first | done | with_reducible rfl)
                         try simp only [Act.put, sT, sZ, sS]
                         refine tk1 35 ⟨some 179, _, _, _, _, _⟩ ?_ rfl hH0 ?_ ?_
                         rotate_left
                         ·(intro w hSw; (try dsimp only at hSw); go_simp; first | done | with_reducible rfl)
                         try simp only [Act.put, sT, sZ, sS]
                         refine tk1 36 ⟨some 180, _, _, _, _, _⟩ ?_ rfl hH0 ?_ ?_
                         rotate_left
                         ·(intro w hSw; (try dsimp only at hSw); go_simp; first | done | with_reducible rfl)
                         try simp only [Act.put, sT, sZ, sS]
                         refine tk1 37 ⟨some 181, _, _, _, _, _⟩ ?_ rfl hH0 ?_ ?_
                         rotate_left
                         ·(intro w hSw; (try dsimp only at hSw); go_simp; first | done | with_reducible rfl)
                         try simp only [Act.put, sT, sZ, sS]
                         refine tk1 38 ⟨some 182, _, _, _, _, _⟩ ?_ rfl hH0 ?_ ?_
                         rotate_left
                         ·(intro w hSw; (try dsimp only at hSw); go_simp; first | done | with_reducible rfl)
                         try simp only [Act.put, sT, sZ, sS]
                         refine tk1 39 ⟨some 183, _, _, _, _, _⟩ ?_ rfl hH0 ?_ ?_
                         rotate_left
                         ·(intro w hSw; (try dsimp only at hSw); go_simp; first | done | with_reducible rfl)
                         try simp only [Act.put, sT, sZ, sS]
                         refine wpAnyH_done (by as_aux_lemma => kernel_rfl) ?_ _
                         go_wp2_with fail
                         go_ret2
                         exact ⟨HBC2.out.trans ((HBQ.out.trans (hH0.1.mono HBQ.out.size)).mono HBC2.out.size), _, by rw [HQ.out]; rfl, by rw [HQ.out]; exact OwnU.nil _ _⟩
                       ·have k4 : ((q2 : Int) < (pe : Int)) = False := eq_false (by omega)
                        have k4n : (q2 < pe) = False := eq_false (by omega)
                        have HANX : Hid ((ts.take (j + 1)).any (overTab (tabAt l i)) = false) := Lib.hid (by
                         rw [HTJ.out, List.any_append, HANY.out, HTA.out]
                         simp [HOV.out, h4])
                        clear h1 h2 h3 h4
                        go_upto_region 15 with fail
                        as_aux_lemma =>
                         refine wp_region_held_drew (S := fun w' => Below wq.heap.size wq w' ∧ w'.cell? ⟨X, 4, none⟩ = some (.int .i64 (p : Int)) ∧ w'.cell? ⟨X, 5, none⟩ = some (.int .i64 (m : Int)) ∧ w'.cell? ⟨gT, j * 6 + 4, none⟩ = some (.int .i64 (q2 : Int)) ∧ w'.cell? ⟨gT, j * 6 + 5, none⟩ = some (.int .i64 (m2 : Int))) (by as_aux_lemma => kernel_rfl) (⟨(Below.refl _ wq).drew, t4, t5, v4, v5⟩) (fun hH0 => ?_)
                         change wpAnyH _ _ _ _ _ 40 #[false, false, false, false, false, false, false, false, false, false, false, false, false, false, false, false, false, false, false, false, false, false, false, false, false, false, false, false, false, false, false, false, false, false, false, false, false, false, false, false] _ _
                         refine tk1 0 ⟨some 144, _, _, _, _, _⟩ ?_ rfl hH0 ?_ ?_
                         rotate_left
                         ·(intro w hSw; (try dsimp only at hSw); go_simp; first | done | with_reducible rfl)
                         try simp only [Act.put, sT, sZ, sS]
                         refine tk1 1 ⟨some 145, _, _, _, _, _⟩ ?_ rfl hH0 ?_ ?_
                         rotate_left
                         ·(intro w hSw; (try dsimp only at hSw); go_simp; first | done | with_reducible rfl)
                         try simp only [Act.put, sT, sZ, sS]
                         refine tk1 2 ⟨some 146, _, _, _, _, _⟩ ?_ rfl hH0 ?_ ?_
                         rotate_left
                         ·(intro w hSw; (try dsimp only at hSw); go_simp; first | done | with_reducible rfl)
                         try simp only [Act.put, sT, sZ, sS]
                         refine tk1 3 ⟨some 147, _, _, _, _, _⟩ ?_ rfl hH0 ?_ ?_
                         rotate_left
                         ·(intro w hSw; (try dsimp only at hSw); go_simp; first | done | with_reducible rfl)
                         try simp only [Act.put, sT, sZ, sS]
                         refine tk1 4 ⟨some 148, _, _, _, _, _⟩ ?_ rfl hH0 ?_ ?_
                         rotate_left
                         ·(intro w hSw; (try dsimp only at hSw); go_simp; first | done | with_reducible rfl)
                         try simp only [Act.put, sT, sZ, sS]
                         refine tk1 5 ⟨some 149, _, _, _, _, _⟩ ?_ rfl hH0 ?_ ?_
                         rotate_left
                         ·(intro w hSw; (try dsimp only at hSw); go_simp; first | done | with_reducible rfl)
                         try simp only [Act.put, sT, sZ, sS]
                         refine tk1 6 ⟨some 150, _, _, _, _, _⟩ ?_ rfl hH0 ?_ ?_
                         rotate_left
                         ·(intro w hSw; (try dsimp only at hSw); go_simp; first | done | with_reducible rfl)
                         try simp only [Act.put, sT, sZ, sS]
                         refine tk1 7 ⟨some 151, _, _, _, _, _⟩ ?_ rfl hH0 ?_ ?_
                         rotate_left
                         ·(intro w hSw; (try dsimp only at hSw); go_simp; first | done | with_reducible rfl)
                         try simp only [Act.put, sT, sZ, sS]
                         refine tk1 8 ⟨some 152, _, _, _, _, _⟩ ?_ rfl hH0 ?_ ?_
                         rotate_left
                         ·(intro w hSw; (try dsimp only at hSw); go_simp; first | done | with_reducible rfl)
                         try simp only [Act.put, sT, sZ, sS]
                         refine tk1 9 ⟨some 153, _, _, _, _, _⟩ ?_ rfl hH0 ?_ ?_
                         rotate_left
                         ·(intro w hSw; (try dsimp only at hSw); go_simp; first | done | with_reducible rfl)
                         try simp only [Act.put, sT, sZ, sS]
                         refine tk1 10 ⟨some 154, _, _, _, _, _⟩ ?_ rfl hH0 ?_ ?_
                         rotate_left
                         ·(intro w hSw; (try dsimp only at hSw); go_simp; first | done | with_reducible rfl)
                         try simp only [Act.put, sT, sZ, sS]
                         refine tk1 11 ⟨some 155, _, _, _, _, _⟩ ?_ rfl hH0 ?_ ?_
                         rotate_left
                         ·(intro w hSw; (try dsimp only at hSw); go_simp; first | done | with_reducible rfl)
                         try simp only [Act.put, sT, sZ, sS]
                         refine tk1 12 ⟨some 156, _, _, _, _, _⟩ ?_ rfl hH0 ?_ ?_
                         rotate_left
                         ·(intro w hSw; (try dsimp only at hSw); go_simp; first | done | with_reducible rfl)
                         try simp only [Act.put, sT, sZ, sS]
                         refine tk1 13 ⟨some 157, _, _, _, _, _⟩ ?_ rfl hH0 ?_ ?_
                         rotate_left
                         ·(intro w hSw; (try dsimp only at hSw); go_simp; first | done | with_reducible rfl)
                         try simp only [Act.put, sT, sZ, sS]
                         refine tk1 14 ⟨some 158, _, _, _, _, _⟩ ?_ rfl hH0 ?_ ?_
                         rotate_left
                         ·(intro w hSw; (try dsimp only at hSw); go_simp; first | done | with_reducible rfl)
                         try simp only [Act.put, sT, sZ, sS]
                         refine tk1 15 ⟨some 159, _, _, _, _, _⟩ ?_ rfl hH0 ?_ ?_
                         rotate_left
                         ·(intro w hSw; (try dsimp only at hSw); go_simp; first | done | with_reducible rfl)
                         try simp only [Act.put, sT, sZ, sS]
                         refine tk1 16 ⟨some 160, _, _, _, _, _⟩ ?_ rfl hH0 ?_ ?_
                         rotate_left
                         ·(intro w hSw; (try dsimp only at hSw); go_simp; first | done | with_reducible rfl)
                         try simp only [Act.put, sT, sZ, sS]
                         refine tk1 17 ⟨some 161, _, _, _, _, _⟩ ?_ rfl hH0 ?_ ?_
                         rotate_left
                         ·(intro w hSw; (try dsimp only at hSw); go_simp; first | done | with_reducible rfl)
                         try simp only [Act.put, sT, sZ, sS]
                         refine tk1 18 ⟨some 162, _, _, _, _, _⟩ ?_ rfl hH0 ?_ ?_
                         rotate_left
                         ·(intro w hSw; (try dsimp only at hSw); go_simp; first | done | with_reducible rfl)
                         try simp only [Act.put, sT, sZ, sS]
                         refine tk1 19 ⟨some 163, _, _, _, _, _⟩ ?_ rfl hH0 ?_ ?_
                         rotate_left
                         ·(intro w hSw; (try dsimp only at hSw); go_simp; first | done | with_reducible rfl)
                         try simp only [Act.put, sT, sZ, sS]
                         refine tk1 20 ⟨some 164, _, _, _, _, _⟩ ?_ rfl hH0 ?_ ?_
                         rotate_left
                         ·(intro w hSw; (try dsimp only at hSw); go_simp; first | done | with_reducible rfl)
                         try simp only [Act.put, sT, sZ, sS]
                         refine tk1 21 ⟨some 165, _, _, _, _, _⟩ ?_ rfl hH0 ?_ ?_
                         rotate_left
                         ·(intro w hSw; (try dsimp only at hSw); go_simp; first | done | with_reducible rfl)
                         try simp only [Act.put, sT, sZ, sS]
                         refine tk1 22 ⟨some 166, _, _, _, _, _⟩ ?_ rfl hH0 ?_ ?_
                         rotate_left
                         ·(intro w hSw; (try dsimp only at hSw); go_simp; first | done | with_reducible rfl)
                         try simp only [Act.put, sT, sZ, sS]
                         refine tk1 23 ⟨some 167, _, _, _, _, _⟩ ?_ rfl hH0 ?_ ?_
                         rotate_left
                         ·(intro w hSw; (try dsimp only at hSw); go_simp; first | done | with_reducible rfl)
                         try simp only [Act.put, sT, sZ, sS]
                         refine tk1 24 ⟨some 168, _, _, _, _, _⟩ ?_ rfl hH0 ?_ ?_
                         rotate_left
                         ·(intro w hSw; (try dsimp only at hSw); go_simp; first | done | with_reducible rfl)
                         try simp only [Act.put, sT, sZ, sS]
                         refine tk1 25 ⟨some 169, _, _, _, _, _⟩ ?_ rfl hH0 ?_ ?_
                         rotate_left
                         ·(intro w hSw; (try dsimp only at hSw); go_simp; first | done | with_reducible rfl)
                         try simp only [Act.put, sT, sZ, sS]
                         refine tk1 26 ⟨some 170, _, _, _, _, _⟩ ?_ rfl hH0 ?_ ?_
                         rotate_left
                         ·(intro w hSw; (try dsimp only at hSw); go_simp; first | done | with_reducible rfl)
                         try simp only [Act.put, sT, sZ, sS]
                         refine tk1 27 ⟨some 171, _, _, _, _, _⟩ ?_ rfl hH0 ?_ ?_
                         rotate_left
                         ·(intro w hSw; (try dsimp only at hSw); go_simp; first | done | with_reducible rfl)
                         try simp only [Act.put, sT, sZ, sS]
                         refine tk1 28 ⟨some 172, _, _, _, _, _⟩ ?_ rfl hH0 ?_ ?_
                         rotate_left
                         ·(intro w hSw; (try dsimp only at hSw); go_simp; first | done | with_reducible rfl)
                         try simp only [Act.put, sT, sZ, sS]
                         refine tk1 29 ⟨some 173, _, _, _, _, _⟩ ?_ rfl hH0 ?_ ?_
                         rotate_left
                         ·(intro w hSw; (try dsimp only at hSw); go_simp; first | done | with_reducible rfl)
                         try simp only [Act.put, sT, sZ, sS]
                         refine tk1 30 ⟨some 174, _, _, _, _, _⟩ ?_ rfl hH0 ?_ ?_
                         rotate_left
                         ·(intro w hSw; (try dsimp only at hSw); go_simp; first | done | with_reducible rfl)
                         try simp only [Act.put, sT, sZ, sS]
                         refine tk1 31 ⟨some 175, _, _, _, _, _⟩ ?_ rfl hH0 ?_ ?_
                         rotate_left
                         ·(intro w hSw; (try dsimp only at hSw); go_simp; first | done | with_reducible rfl)
                         try simp only [Act.put, sT, sZ, sS]
                         refine tk1 32 ⟨some 176, _, _, _, _, _⟩ ?_ rfl hH0 ?_ ?_
                         rotate_left
                         ·(intro w hSw; (try dsimp only at hSw); go_simp; first | done | with_reducible rfl)
                         try simp only [Act.put, sT, sZ, sS]
                         refine tk1 33 ⟨some 177, _, _, _, _, _⟩ ?_ rfl hH0 ?_ ?_
                         rotate_left
                         ·(intro w hSw; (try dsimp only at hSw); go_simp; first | done | with_reducible rfl)
                         try simp only [Act.put, sT, sZ, sS]
                         refine tk1 34 ⟨some 178, _, _, _, _, _⟩ ?_ rfl hH0 ?_ ?_
                         rotate_left
                         ·(intro w hSw; (try dsimp only at hSw); go_simp; first | done | with_reducible rfl)
                         try simp only [Act.put, sT, sZ, sS]
                         refine tk1 35 ⟨some 179, _, _, _, _, _⟩ ?_ rfl hH0 ?_ ?_
                         rotate_left
                         ·(intro w hSw; (try dsimp only at hSw); go_simp; first | done | with_reducible rfl)
                         try simp only [Act.put, sT, sZ, sS]
                         refine tk1 36 ⟨some 180, _, _, _, _, _⟩ ?_ rfl hH0 ?_ ?_
                         rotate_left
                         ·(intro w hSw; (try dsimp only at hSw); go_simp; first | done | with_reducible rfl)
                         try simp only [Act.put, sT, sZ, sS]
                         refine tk1 37 ⟨some 181, _, _, _, _, _⟩ ?_ rfl hH0 ?_ ?_
                         rotate_left
                         ·(intro w hSw; (try dsimp only at hSw); go_simp; first | done | with_reducible rfl)
                         try simp only [Act.put, sT, sZ, sS]
                         refine tk1 38 ⟨some 182, _, _, _, _, _⟩ ?_ rfl hH0 ?_ ?_
                         rotate_left
                         ·(intro w hSw; (try dsimp only at hSw); go_simp; first | done | with_reducible rfl)
                         try simp only [Act.put, sT, sZ, sS]
                         refine tk1 39 ⟨some 183, _, _, _, _, _⟩ ?_ rfl hH0 ?_ ?_
                         rotate_left
                         ·(intro w hSw; (try dsimp only at hSw); go_simp; first | done | with_reducible rfl)
                         try simp only [Act.put, sT, sZ, sS]
                         refine wpAnyH_done (by as_aux_lemma => kernel_rfl) ?_ _
                         have HBZ := Lib.hid (HBQ.out.trans (hH0.1.mono HBQ.out.size))
                         clear hH0 t4 t5 v4 v5
                         go_wp2_with fail
                         go_roundg (gk - 1)
                         case measure => have := HJK.out; have := HJN.out; omega
                         case rel => exact ⟨j + 1, by have := HJK.out; have := HJN.out; omega, rfl, HANX.out, HBZ.out⟩
                      ·have k3 : ((p : Int) < (qe2 : Int)) = False := eq_false (by omega)
                       have k3n : (p < qe2) = False := eq_false (by omega)
                       have HANX : Hid ((ts.take (j + 1)).any (overTab (tabAt l i)) = false) := Lib.hid (by
                        rw [HTJ.out, List.any_append, HANY.out, HTA.out]
                        simp [HOV.out, h3])
                       clear h1 h2 h3
                       go_upto_region 15 with fail
                       as_aux_lemma =>
                        refine wp_region_held_drew (S := fun w' => Below wq.heap.size wq w' ∧ w'.cell? ⟨X, 4, none⟩ = some (.int .i64 (p : Int)) ∧ w'.cell? ⟨X, 5, none⟩ = some (.int .i64 (m : Int)) ∧ w'.cell? ⟨gT, j * 6 + 4, none⟩ = some (.int .i64 (q2 : Int)) ∧ w'.cell? ⟨gT, j * 6 + 5, none⟩ = some (.int .i64 (m2 : Int))) (by as_aux_lemma => kernel_rfl) (⟨(Below.refl _ wq).drew, t4, t5, v4, v5⟩) (fun hH0 => ?_)
                        change wpAnyH _ _ _ _ _ 40 #[false, false, false, false, false, false, false, false, false, false, false, false, false, false, false, false, false, false, false, false, false, false, false, false, false, false, false, false, false, false, false, false, false, false, false, false, false, false, false, false] _ _
                        refine tk1 0 ⟨some 144, _, _, _, _, _⟩ ?_ rfl hH0 ?_ ?_
                        rotate_left
                        ·(intro w hSw; (try dsimp only at hSw); go_simp; first | done | with_reducible rfl)
                        try simp only [Act.put, sT, sZ, sS]
                        refine tk1 1 ⟨some 145, _, _, _, _, _⟩ ?_ rfl hH0 ?_ ?_
                        rotate_left
                        ·(intro w hSw; (try dsimp only at hSw); go_simp; first | done | with_reducible rfl)
                        try simp only [Act.put, sT, sZ, sS]
                        refine tk1 2 ⟨some 146, _, _, _, _, _⟩ ?_ rfl hH0 ?_ ?_
                        rotate_left
                        ·(intro w hSw; (try dsimp only at hSw); go_simp; first | done | with_reducible rfl)
                        try simp only [Act.put, sT, sZ, sS]
                        refine tk1 3 ⟨some 147, _, _, _, _, _⟩ ?_ rfl hH0 ?_ ?_
                        rotate_left
                        ·(intro w hSw; (try dsimp only at hSw); go_simp; first | done | with_reducible rfl)
                        try simp only [Act.put, sT, sZ, sS]
                        refine tk1 4 ⟨some 148, _, _, _, _, _⟩ ?_ rfl hH0 ?_ ?_
                        rotate_left
                        ·(intro w hSw; (try dsimp only at hSw); go_simp; first | done | with_reducible rfl)
                        try simp only [Act.put, sT, sZ, sS]
                        refine tk1 5 ⟨some 149, _, _, _, _, _⟩ ?_ rfl hH0 ?_ ?_
                        rotate_left
                        ·(intro w hSw; (try dsimp only at hSw); go_simp; first | done | with_reducible rfl)
                        try simp only [Act.put, sT, sZ, sS]
                        refine tk1 6 ⟨some 150, _, _, _, _, _⟩ ?_ rfl hH0 ?_ ?_
                        rotate_left
                        ·(intro w hSw; (try dsimp only at hSw); go_simp; first | done | with_reducible rfl)
                        try simp only [Act.put, sT, sZ, sS]
                        refine tk1 7 ⟨some 151, _, _, _, _, _⟩ ?_ rfl hH0 ?_ ?_
                        rotate_left
                        ·(intro w hSw; (try dsimp only at hSw); go_simp; first | done | with_reducible rfl)
                        try simp only [Act.put, sT, sZ, sS]
                        refine tk1 8 ⟨some 152, _, _, _, _, _⟩ ?_ rfl hH0 ?_ ?_
                        rotate_left
                        ·(intro w hSw; (try dsimp only at hSw); go_simp; first | done | with_reducible rfl)
                        try simp only [Act.put, sT, sZ, sS]
                        refine tk1 9 ⟨some 153, _, _, _, _, _⟩ ?_ rfl hH0 ?_ ?_
                        rotate_left
                        ·(intro w hSw; (try dsimp only at hSw); go_simp; first | done | with_reducible rfl)
                        try simp only [Act.put, sT, sZ, sS]
                        refine tk1 10 ⟨some 154, _, _, _, _, _⟩ ?_ rfl hH0 ?_ ?_
                        rotate_left
                        ·(intro w hSw; (try dsimp only at hSw); go_simp; first | done | with_reducible rfl)
                        try simp only [Act.put, sT, sZ, sS]
                        refine tk1 11 ⟨some 155, _, _, _, _, _⟩ ?_ rfl hH0 ?_ ?_
                        rotate_left
                        ·(intro w hSw; (try dsimp only at hSw); go_simp; first | done | with_reducible rfl)
                        try simp only [Act.put, sT, sZ, sS]
                        refine tk1 12 ⟨some 156, _, _, _, _, _⟩ ?_ rfl hH0 ?_ ?_
                        rotate_left
                        ·(intro w hSw; (try dsimp only at hSw); go_simp; first | done | with_reducible rfl)
                        try simp only [Act.put, sT, sZ, sS]
                        refine tk1 13 ⟨some 157, _, _, _, _, _⟩ ?_ rfl hH0 ?_ ?_
                        rotate_left
                        ·(intro w hSw; (try dsimp only at hSw); go_simp; first | done | with_reducible rfl)
                        try simp only [Act.put, sT, sZ, sS]
                        refine tk1 14 ⟨some 158, _, _, _, _, _⟩ ?_ rfl hH0 ?_ ?_
                        rotate_left
                        ·(intro w hSw; (try dsimp only at hSw); go_simp; first | done | with_reducible rfl)
                        try simp only [Act.put, sT, sZ, sS]
                        refine tk1 15 ⟨some 159, _, _, _, _, _⟩ ?_ rfl hH0 ?_ ?_
                        rotate_left
                        ·(intro w hSw; (try dsimp only at hSw); go_simp; first | done | with_reducible rfl)
                        try simp only [Act.put, sT, sZ, sS]
                        refine tk1 16 ⟨some 160, _, _, _, _, _⟩ ?_ rfl hH0 ?_ ?_
                        rotate_left
                        ·(intro w hSw; (try dsimp only at hSw); go_simp; first | done | with_reducible rfl)
                        try simp only [Act.put, sT, sZ, sS]
                        refine tk1 17 ⟨some 161, _, _, _, _, _⟩ ?_ rfl hH0 ?_ ?_
                        rotate_left
                        ·(intro w hSw; (try dsimp only at hSw); go_simp; first | done | with_reducible rfl)
                        try simp only [Act.put, sT, sZ, sS]
                        refine tk1 18 ⟨some 162, _, _, _, _, _⟩ ?_ rfl hH0 ?_ ?_
                        rotate_left
                        ·(intro w hSw; (try dsimp only at hSw); go_simp; first | done | with_reducible rfl)
                        try simp only [Act.put, sT, sZ, sS]
                        refine tk1 19 ⟨some 163, _, _, _, _, _⟩ ?_ rfl hH0 ?_ ?_
                        rotate_left
                        ·(intro w hSw; (try dsimp only at hSw); go_simp; first | done | with_reducible rfl)
                        try simp only [Act.put, sT, sZ, sS]
                        refine tk1 20 ⟨some 164, _, _, _, _, _⟩ ?_ rfl hH0 ?_ ?_
                        rotate_left
                        ·(intro w hSw; (try dsimp only at hSw); go_simp; first | done | with_reducible rfl)
                        try simp only [Act.put, sT, sZ, sS]
                        refine tk1 21 ⟨some 165, _, _, _, _, _⟩ ?_ rfl hH0 ?_ ?_
                        rotate_left
                        ·(intro w hSw; (try dsimp only at hSw); go_simp; first | done | with_reducible rfl)
                        try simp only [Act.put, sT, sZ, sS]
                        refine tk1 22 ⟨some 166, _, _, _, _, _⟩ ?_ rfl hH0 ?_ ?_
                        rotate_left
                        ·(intro w hSw; (try dsimp only at hSw); go_simp; first | done | with_reducible rfl)
                        try simp only [Act.put, sT, sZ, sS]
                        refine tk1 23 ⟨some 167, _, _, _, _, _⟩ ?_ rfl hH0 ?_ ?_
                        rotate_left
                        ·(intro w hSw; (try dsimp only at hSw); go_simp; first | done | with_reducible rfl)
                        try simp only [Act.put, sT, sZ, sS]
                        refine tk1 24 ⟨some 168, _, _, _, _, _⟩ ?_ rfl hH0 ?_ ?_
                        rotate_left
                        ·(intro w hSw; (try dsimp only at hSw); go_simp; first | done | with_reducible rfl)
                        try simp only [Act.put, sT, sZ, sS]
                        refine tk1 25 ⟨some 169, _, _, _, _, _⟩ ?_ rfl hH0 ?_ ?_
                        rotate_left
                        ·(intro w hSw; (try dsimp only at hSw); go_simp; first | done | with_reducible rfl)
                        try simp only [Act.put, sT, sZ, sS]
                        refine tk1 26 ⟨some 170, _, _, _, _, _⟩ ?_ rfl hH0 ?_ ?_
                        rotate_left
                        ·(intro w hSw; (try dsimp only at hSw); go_simp; first | done | with_reducible rfl)
                        try simp only [Act.put, sT, sZ, sS]
                        refine tk1 27 ⟨some 171, _, _, _, _, _⟩ ?_ rfl hH0 ?_ ?_
                        rotate_left
                        ·(intro w hSw; (try dsimp only at hSw); go_simp; first | done | with_reducible rfl)
                        try simp only [Act.put, sT, sZ, sS]
                        refine tk0 28 ⟨some 172, _, _, _, _, _⟩ rfl hH0 ?_
                        try simp only [Act.put, sT, sZ, sS]
                        refine tk0 29 ⟨some 173, _, _, _, _, _⟩ rfl hH0 ?_
                        try simp only [Act.put, sT, sZ, sS]
                        refine tk0 30 ⟨some 174, _, _, _, _, _⟩ rfl hH0 ?_
                        try simp only [Act.put, sT, sZ, sS]
                        refine tk0 31 ⟨some 175, _, _, _, _, _⟩ rfl hH0 ?_
                        try simp only [Act.put, sT, sZ, sS]
                        refine tk0 32 ⟨some 176, _, _, _, _, _⟩ rfl hH0 ?_
                        try simp only [Act.put, sT, sZ, sS]
                        refine tk0 33 ⟨some 177, _, _, _, _, _⟩ rfl hH0 ?_
                        try simp only [Act.put, sT, sZ, sS]
                        refine tk0 34 ⟨some 178, _, _, _, _, _⟩ rfl hH0 ?_
                        try simp only [Act.put, sT, sZ, sS]
                        refine tk0 35 ⟨some 179, _, _, _, _, _⟩ rfl hH0 ?_
                        try simp only [Act.put, sT, sZ, sS]
                        refine tk0 36 ⟨some 180, _, _, _, _, _⟩ rfl hH0 ?_
                        try simp only [Act.put, sT, sZ, sS]
                        refine tk0 37 ⟨some 181, _, _, _, _, _⟩ rfl hH0 ?_
                        try simp only [Act.put, sT, sZ, sS]
                        refine tk0 38 ⟨some 182, _, _, _, _, _⟩ rfl hH0 ?_
                        try simp only [Act.put, sT, sZ, sS]
                        refine tk1 39 ⟨some 183, _, _, _, _, _⟩ ?_ rfl hH0 ?_ ?_
                        rotate_left
                        ·(intro w hSw; (try dsimp only at hSw); go_simp; first | done | with_reducible rfl)
                        try simp only [Act.put, sT, sZ, sS]
                        refine wpAnyH_done (by as_aux_lemma => kernel_rfl) ?_ _
                        have HBZ := Lib.hid (HBQ.out.trans (hH0.1.mono HBQ.out.size))
                        clear hH0 t4 t5 v4 v5
                        go_wp2_with fail
                        go_roundg (gk - 1)
                        case measure => have := HJK.out; have := HJN.out; omega
                        case rel => exact ⟨j + 1, by have := HJK.out; have := HJN.out; omega, rfl, HANX.out, HBZ.out⟩
                     ·have k2 : ((0 : Int) < (m2 : Int)) = False := eq_false (by omega)
                      have k2n : (0 < m2) = False := eq_false (by omega)
                      have HANX : Hid ((ts.take (j + 1)).any (overTab (tabAt l i)) = false) := Lib.hid (by
                       rw [HTJ.out, List.any_append, HANY.out, HTA.out]
                       simp [HOV.out, h2])
                      clear h1 h2
                      go_upto_region 15 with fail
                      as_aux_lemma =>
                       refine wp_region_held_drew (S := fun w' => Below wq.heap.size wq w' ∧ w'.cell? ⟨X, 4, none⟩ = some (.int .i64 (p : Int)) ∧ w'.cell? ⟨X, 5, none⟩ = some (.int .i64 (m : Int)) ∧ w'.cell? ⟨gT, j * 6 + 4, none⟩ = some (.int .i64 (q2 : Int)) ∧ w'.cell? ⟨gT, j * 6 + 5, none⟩ = some (.int .i64 (m2 : Int))) (by as_aux_lemma => kernel_rfl) (⟨(Below.refl _ wq).drew, t4, t5, v4, v5⟩) (fun hH0 => ?_)
                       change wpAnyH _ _ _ _ _ 40 #[false, false, false, false, false, false, false, false, false, false, false, false, false, false, false, false, false, false, false, false, false, false, false, false, false, false, false, false, false, false, false, false, false, false, false, false, false, false, false, false] _ _
                       refine tk1 0 ⟨some 144, _, _, _, _, _⟩ ?_ rfl hH0 ?_ ?_
                       rotate_left
                       ·(intro w hSw; (try dsimp only at hSw); go_simp; first | done | with_reducible rfl)
                       try simp only [Act.put, sT, sZ, sS]
                       refine tk1 1 ⟨some 145, _, _, _, _, _⟩ ?_ rfl hH0 ?_ ?_
                       rotate_left
                       ·(intro w hSw; (try dsimp only at hSw); go_simp; first | done | with_reducible rfl)
                       try simp only [Act.put, sT, sZ, sS]
                       refine tk1 2 ⟨some 146, _, _, _, _, _⟩ ?_ rfl hH0 ?_ ?_
                       rotate_left
                       ·(intro w hSw; (try dsimp only at hSw); go_simp; first | done | with_reducible rfl)
                       try simp only [Act.put, sT, sZ, sS]
                       refine tk1 3 ⟨some 147, _, _, _, _, _⟩ ?_ rfl hH0 ?_ ?_
                       rotate_left
                       ·(intro w hSw; (try dsimp only at hSw); go_simp; first | done | with_reducible rfl)
                       try simp only [Act.put, sT, sZ, sS]
                       refine tk1 4 ⟨some 148, _, _, _, _, _⟩ ?_ rfl hH0 ?_ ?_
                       rotate_left
                       ·(intro w hSw; (try dsimp only at hSw); go_simp; first | done | with_reducible rfl)
                       try simp only [Act.put, sT, sZ, sS]
                       refine tk1 5 ⟨some 149, _, _, _, _, _⟩ ?_ rfl hH0 ?_ ?_
                       rotate_left
                       ·(intro w hSw; (try dsimp only at hSw); go_simp; first | done | with_reducible rfl)
                       try simp only [Act.put, sT, sZ, sS]
                       refine tk1 6 ⟨some 150, _, _, _, _, _⟩ ?_ rfl hH0 ?_ ?_
                       rotate_left
                       ·(intro w hSw; (try dsimp only at hSw); go_simp; first | done | with_reducible rfl)
                       try simp only [Act.put, sT, sZ, sS]
                       refine tk1 7 ⟨some 151, _, _, _, _, _⟩ ?_ rfl hH0 ?_ ?_
                       rotate_left
                       ·(intro w hSw; (try dsimp only at hSw); go_simp; first | done | with_reducible rfl)
                       try simp only [Act.put, sT, sZ, sS]
                       refine tk1 8 ⟨some 152, _, _, _, _, _⟩ ?_ rfl hH0 ?_ ?_
                       rotate_left
                       ·(intro w hSw; (try dsimp only at hSw); go_simp; first | done | with_reducible rfl)
                       try simp only [Act.put, sT, sZ, sS]
                       refine tk1 9 ⟨some 153, _, _, _, _, _⟩ ?_ rfl hH0 ?_ ?_
                       rotate_left
                       ·(intro w hSw; (try dsimp only at hSw); go_simp; first | done | with_reducible rfl)
                       try simp only [Act.put, sT, sZ, sS]
                       refine tk1 10 ⟨some 154, _, _, _, _, _⟩ ?_ rfl hH0 ?_ ?_
                       rotate_left
                       ·(intro w hSw; (try dsimp only at hSw); go_simp; first | done | with_reducible rfl)
                       try simp only [Act.put, sT, sZ, sS]
                       refine tk1 11 ⟨some 155, _, _, _, _, _⟩ ?_ rfl hH0 ?_ ?_
                       rotate_left
                       ·(intro w hSw; (try dsimp only at hSw); go_simp; first | done | with_reducible rfl)
                       try simp only [Act.put, sT, sZ, sS]
                       refine tk0 12 ⟨some 156, _, _, _, _, _⟩ rfl hH0 ?_
                       try simp only [Act.put, sT, sZ, sS]
                       refine tk0 13 ⟨some 157, _, _, _, _, _⟩ rfl hH0 ?_
                       try simp only [Act.put, sT, sZ, sS]
                       refine tk0 14 ⟨some 158, _, _, _, _, _⟩ rfl hH0 ?_
                       try simp only [Act.put, sT, sZ, sS]
                       refine tk0 15 ⟨some 159, _, _, _, _, _⟩ rfl hH0 ?_
                       try simp only [Act.put, sT, sZ, sS]
                       refine tk0 16 ⟨some 160, _, _, _, _, _⟩ rfl hH0 ?_
                       try simp only [Act.put, sT, sZ, sS]
                       refine tk0 17 ⟨some 161, _, _, _, _, _⟩ rfl hH0 ?_
                       try simp only [Act.put, sT, sZ, sS]
                       refine tk0 18 ⟨some 162, _, _, _, _, _⟩ rfl hH0 ?_
                       try simp only [Act.put, sT, sZ, sS]
                       refine tk0 19 ⟨some 163, _, _, _, _, _⟩ rfl hH0 ?_
                       try simp only [Act.put, sT, sZ, sS]
                       refine tk0 20 ⟨some 164, _, _, _, _, _⟩ rfl hH0 ?_
                       try simp only [Act.put, sT, sZ, sS]
                       refine tk0 21 ⟨some 165, _, _, _, _, _⟩ rfl hH0 ?_
                       try simp only [Act.put, sT, sZ, sS]
                       refine tk0 22 ⟨some 166, _, _, _, _, _⟩ rfl hH0 ?_
                       try simp only [Act.put, sT, sZ, sS]
                       refine tk0 23 ⟨some 167, _, _, _, _, _⟩ rfl hH0 ?_
                       try simp only [Act.put, sT, sZ, sS]
                       refine tk0 24 ⟨some 168, _, _, _, _, _⟩ rfl hH0 ?_
                       try simp only [Act.put, sT, sZ, sS]
                       refine tk0 25 ⟨some 169, _, _, _, _, _⟩ rfl hH0 ?_
                       try simp only [Act.put, sT, sZ, sS]
                       refine tk1 26 ⟨some 170, _, _, _, _, _⟩ ?_ rfl hH0 ?_ ?_
                       rotate_left
                       ·(intro w hSw; (try dsimp only at hSw); go_simp; first | done | with_reducible rfl)
                       try simp only [Act.put, sT, sZ, sS]
                       refine tk1 27 ⟨some 171, _, _, _, _, _⟩ ?_ rfl hH0 ?_ ?_
                       rotate_left
                       ·(intro w hSw; (try dsimp only at hSw); go_simp; first | done | with_reducible rfl)
                       try simp only [Act.put, sT, sZ, sS]
                       refine tk0 28 ⟨some 172, _, _, _, _, _⟩ rfl hH0 ?_
                       try simp only [Act.put, sT, sZ, sS]
                       refine tk0 29 ⟨some 173, _, _, _, _, _⟩ rfl hH0 ?_
                       try simp only [Act.put, sT, sZ, sS]
                       refine tk0 30 ⟨some 174, _, _, _, _, _⟩ rfl hH0 ?_
                       try simp only [Act.put, sT, sZ, sS]
                       refine tk0 31 ⟨some 175, _, _, _, _, _⟩ rfl hH0 ?_
                       try simp only [Act.put, sT, sZ, sS]
                       refine tk0 32 ⟨some 176, _, _, _, _, _⟩ rfl hH0 ?_
                       try simp only [Act.put, sT, sZ, sS]
                       refine tk0 33 ⟨some 177, _, _, _, _, _⟩ rfl hH0 ?_
                       try simp only [Act.put, sT, sZ, sS]
                       refine tk0 34 ⟨some 178, _, _, _, _, _⟩ rfl hH0 ?_
                       try simp only [Act.put, sT, sZ, sS]
                       refine tk0 35 ⟨some 179, _, _, _, _, _⟩ rfl hH0 ?_
                       try simp only [Act.put, sT, sZ, sS]
                       refine tk0 36 ⟨some 180, _, _, _, _, _⟩ rfl hH0 ?_
                       try simp only [Act.put, sT, sZ, sS]
                       refine tk0 37 ⟨some 181, _, _, _, _, _⟩ rfl hH0 ?_
                       try simp only [Act.put, sT, sZ, sS]
                       refine tk0 38 ⟨some 182, _, _, _, _, _⟩ rfl hH0 ?_
                       try simp only [Act.put, sT, sZ, sS]
                       refine tk1 39 ⟨some 183, _, _, _, _, _⟩ ?_ rfl hH0 ?_ ?_
                       rotate_left
                       ·(intro w hSw; (try dsimp only at hSw); go_simp; first | done | with_reducible rfl)
                       try simp only [Act.put, sT, sZ, sS]
                       refine wpAnyH_done (by as_aux_lemma => kernel_rfl) ?_ _
                       have HBZ := Lib.hid (HBQ.out.trans (hH0.1.mono HBQ.out.size))
                       clear hH0 t4 t5 v4 v5
                       go_wp2_with fail
                       go_roundg (gk - 1)
                       case measure => have := HJK.out; have := HJN.out; omega
                       case rel => exact ⟨j + 1, by have := HJK.out; have := HJN.out; omega, rfl, HANX.out, HBZ.out⟩
                    ·have k1 : ((0 : Int) < (m : Int)) = False := eq_false (by omega)
                     have k1n : (0 < m) = False := eq_false (by omega)
                     have HANX : Hid ((ts.take (j + 1)).any (overTab (tabAt l i)) = false) := Lib.hid (by
                      rw [HTJ.out, List.any_append, HANY.out, HTA.out]
                      simp [HOV.out, h1])
                     clear h1
                     go_upto_region 15 with fail
                     as_aux_lemma =>
                      refine wp_region_held_drew (S := fun w' => Below wq.heap.size wq w' ∧ w'.cell? ⟨X, 4, none⟩ = some (.int .i64 (p : Int)) ∧ w'.cell? ⟨X, 5, none⟩ = some (.int .i64 (m : Int)) ∧ w'.cell? ⟨gT, j * 6 + 4, none⟩ = some (.int .i64 (q2 : Int)) ∧ w'.cell? ⟨gT, j * 6 + 5, none⟩ = some (.int .i64 (m2 : Int))) (by as_aux_lemma => kernel_rfl) (⟨(Below.refl _ wq).drew, t4, t5, v4, v5⟩) (fun hH0 => ?_)
                      change wpAnyH _ _ _ _ _ 40 #[false, false, false, false, false, false, false, false, false, false, false, false, false, false, false, false, false, false, false, false, false, false, false, false, false, false, false, false, false, false, false, false, false, false, false, false, false, false, false, false] _ _
                      refine tk1 0 ⟨some 144, _, _, _, _, _⟩ ?_ rfl hH0 ?_ ?_
                      rotate_left
                      ·(intro w hSw; (try dsimp only at hSw); go_simp; first | done | with_reducible rfl)
                      try simp only [Act.put, sT, sZ, sS]
                      refine tk1 1 ⟨some 145, _, _, _, _, _⟩ ?_ rfl hH0 ?_ ?_
                      rotate_left
                      ·(intro w hSw; (try dsimp only at hSw); go_simp; first | done | with_reducible rfl)
                      try simp only [Act.put, sT, sZ, sS]
                      refine tk1 2 ⟨some 146, _, _, _, _, _⟩ ?_ rfl hH0 ?_ ?_
                      rotate_left
                      ·(intro w hSw; (try dsimp only at hSw); go_simp; first | done | with_reducible rfl)
                      try simp only [Act.put, sT, sZ, sS]
                      refine tk1 3 ⟨some 147, _, _, _, _, _⟩ ?_ rfl hH0 ?_ ?_
                      rotate_left
                      ·(intro w hSw; (try dsimp only at hSw); go_simp; first | done | with_reducible rfl)
                      try simp only [Act.put, sT, sZ, sS]
                      refine tk0 4 ⟨some 148, _, _, _, _, _⟩ rfl hH0 ?_
                      try simp only [Act.put, sT, sZ, sS]
                      refine tk0 5 ⟨some 149, _, _, _, _, _⟩ rfl hH0 ?_
                      try simp only [Act.put, sT, sZ, sS]
                      refine tk0 6 ⟨some 150, _, _, _, _, _⟩ rfl hH0 ?_
                      try simp only [Act.put, sT, sZ, sS]
                      refine tk0 7 ⟨some 151, _, _, _, _, _⟩ rfl hH0 ?_
                      try simp only [Act.put, sT, sZ, sS]
                      refine tk0 8 ⟨some 152, _, _, _, _, _⟩ rfl hH0 ?_
                      try simp only [Act.put, sT, sZ, sS]
                      refine tk0 9 ⟨some 153, _, _, _, _, _⟩ rfl hH0 ?_
                      try simp only [Act.put, sT, sZ, sS]
                      refine tk1 10 ⟨some 154, _, _, _, _, _⟩ ?_ rfl hH0 ?_ ?_
                      rotate_left
                      ·(intro w hSw; (try dsimp only at hSw); go_simp; first | done | with_reducible rfl)
                      try simp only [Act.put, sT, sZ, sS]
                      refine tk1 11 ⟨some 155, _, _, _, _, _⟩ ?_ rfl hH0 ?_ ?_
                      rotate_left
                      ·(intro w hSw; (try dsimp only at hSw); go_simp; first | done | with_reducible rfl)
                      try simp only [Act.put, sT, sZ, sS]
                      refine tk0 12 ⟨some 156, _, _, _, _, _⟩ rfl hH0 ?_
                      try simp only [Act.put, sT, sZ, sS]
                      refine tk0 13 ⟨some 157, _, _, _, _, _⟩ rfl hH0 ?_
                      try simp only [Act.put, sT, sZ, sS]
                      refine tk0 14 ⟨some 158, _, _, _, _, _⟩ rfl hH0 ?_
                      try simp only [Act.put, sT, sZ, sS]
                      refine tk0 15 ⟨some 159, _, _, _, _, _⟩ rfl hH0 ?_
                      try simp only [Act.put, sT, sZ, sS]
                      refine tk0 16 ⟨some 160, _, _, _, _, _⟩ rfl hH0 ?_
                      try simp only [Act.put, sT, sZ, sS]
                      refine tk0 17 ⟨some 161, _, _, _, _, _⟩ rfl hH0 ?_
                      try simp only [Act.put, sT, sZ, sS]
                      refine tk0 18 ⟨some 162, _, _, _, _, _⟩ rfl hH0 ?_
                      try simp only [Act.put, sT, sZ, sS]
                      refine tk0 19 ⟨some 163, _, _, _, _, _⟩ rfl hH0 ?_
                      try simp only [Act.put, sT, sZ, sS]
                      refine tk0 20 ⟨some 164, _, _, _, _, _⟩ rfl hH0 ?_
                      try simp only [Act.put, sT, sZ, sS]
                      refine tk0 21 ⟨some 165, _, _, _, _, _⟩ rfl hH0 ?_
                      try simp only [Act.put, sT, sZ, sS]
                      refine tk0 22 ⟨some 166, _, _, _, _, _⟩ rfl hH0 ?_
                      try simp only [Act.put, sT, sZ, sS]
                      refine tk0 23 ⟨some 167, _, _, _, _, _⟩ rfl hH0 ?_
                      try simp only [Act.put, sT, sZ, sS]
                      refine tk0 24 ⟨some 168, _, _, _, _, _⟩ rfl hH0 ?_
                      try simp only [Act.put, sT, sZ, sS]
                      refine tk0 25 ⟨some 169, _, _, _, _, _⟩ rfl hH0 ?_
                      try simp only [Act.put, sT, sZ, sS]
                      refine tk1 26 ⟨some 170, _, _, _, _, _⟩ ?_ rfl hH0 ?_ ?_
                      rotate_left
                      ·(intro w hSw; (try dsimp only at hSw); go_simp; first | done | with_reducible rfl)
                      try simp only [Act.put, sT, sZ, sS]
                      refine tk1 27 ⟨some 171, _, _, _, _, _⟩ ?_ rfl hH0 ?_ ?_
                      rotate_left
                      ·(intro w hSw; (try dsimp only at hSw); go_simp; first | done | with_reducible rfl)
                      try simp only [Act.put, sT, sZ, sS]
                      refine tk0 28 ⟨some 172, _, _, _, _, _⟩ rfl hH0 ?_
                      try simp only [Act.put, sT, sZ, sS]
                      refine tk0 29 ⟨some 173, _, _, _, _, _⟩ rfl hH0 ?_
                      try simp only [Act.put, sT, sZ, sS]
                      refine tk0 30 ⟨some 174, _, _, _, _, _⟩ rfl hH0 ?_
                      try simp only [Act.put, sT, sZ, sS]
                      refine tk0 31 ⟨some 175, _, _, _, _, _⟩ rfl hH0 ?_
                      try simp only [Act.put, sT, sZ, sS]
                      refine tk0 32 ⟨some 176, _, _, _, _, _⟩ rfl hH0 ?_
                      try simp only [Act.put, sT, sZ, sS]
                      refine tk0 33 ⟨some 177, _, _, _, _, _⟩ rfl hH0 ?_
                      try simp only [Act.put, sT, sZ, sS]
                      refine tk0 34 ⟨some 178, _, _, _, _, _⟩ rfl hH0 ?_
                      try simp only [Act.put, sT, sZ, sS]
                      refine tk0 35 ⟨some 179, _, _, _, _, _⟩ rfl hH0 ?_
                      try simp only [Act.put, sT, sZ, sS]
                      refine tk0 36 ⟨some 180, _, _, _, _, _⟩ rfl hH0 ?_
                      try simp only [Act.put, sT, sZ, sS]
                      refine tk0 37 ⟨some 181, _, _, _, _, _⟩ rfl hH0 ?_
                      try simp only [Act.put, sT, sZ, sS]
                      refine tk0 38 ⟨some 182, _, _, _, _, _⟩ rfl hH0 ?_
                      try simp only [Act.put, sT, sZ, sS]
                      refine tk1 39 ⟨some 183, _, _, _, _, _⟩ ?_ rfl hH0 ?_ ?_
                      rotate_left
                      ·(intro w hSw; (try dsimp only at hSw); go_simp; first | done | with_reducible rfl)
                      try simp only [Act.put, sT, sZ, sS]
                      refine wpAnyH_done (by as_aux_lemma => kernel_rfl) ?_ _
                      have HBZ := Lib.hid (HBQ.out.trans (hH0.1.mono HBQ.out.size))
                      clear hH0 t4 t5 v4 v5
                      go_wp2_with fail
                      go_roundg (gk - 1)
                      case measure => have := HJK.out; have := HJN.out; omega
                      case rel => exact ⟨j + 1, by have := HJK.out; have := HJN.out; omega, rfl, HANX.out, HBZ.out⟩
                | false =>
                 have HQ : Hid (q = ([], 50)) := Lib.hid (HTS.out.2.1 HBF2.out (tabsL_bad l n i HIN.out ts HTAB.out (.inl (by rw [HBT.out, hgd, htx, ← hlt]; simp [show 0 < i by omega]))))
                 clear hpm hpe hat hi16 hN16 hpb hmb hNl hN6b hat4w hY hYb hZ hV hal htx hbx g1 g2 g3 h0 hal2 hi1 hil hcs hts hy hpc hlt hgd
                 go_upto_region 10 with fail
                 as_aux_lemma =>
                  refine wp_region_held_drew (S := fun w' => Below wt.heap.size wt w' ∧ w'.cell? ⟨X, 0, none⟩ = some (.int .u8 x0) ∧ w'.cell? ⟨X, 1, none⟩ = some (.int .u8 x1) ∧ w'.cell? ⟨X, 2, none⟩ = some (.int .u8 x2) ∧ w'.cell? ⟨X, 3, none⟩ = some (.int .u8 x3) ∧ w'.cell? ⟨X, 4, none⟩ = some (.int .i64 (p : Int)) ∧ w'.cell? ⟨X, 5, none⟩ = some (.int .i64 (m : Int)) ∧ w'.cell? ⟨gT, i1 * 6, none⟩ = some (.int .u8 y0) ∧ w'.cell? ⟨gT, i1 * 6 + 1, none⟩ = some (.int .u8 y1) ∧ w'.cell? ⟨gT, i1 * 6 + 2, none⟩ = some (.int .u8 y2) ∧ w'.cell? ⟨gT, i1 * 6 + 3, none⟩ = some (.int .u8 y3)) (by as_aux_lemma => kernel_rfl) (⟨(Below.refl _ wt).drew, t0, t1, t2, t3, t4, t5, p0, p1, p2, p3⟩) (fun hH0 => ?_)
                  change wpAnyH _ _ _ _ _ 57 #[false, false, false, false, false, false, false, false, false, false, false, false, false, false, false, false, false, false, false, false, false, false, false, false, false, false, false, false, false, false, false, false, false, false, false, false, false, false, false, false, false, false, false, false, false, false, false, false, false, false, false, false, false, false, false, false, false] _ _
                  refine tk1 0 ⟨some 82, _, _, _, _, _⟩ ?_ rfl hH0 ?_ ?_
                  rotate_left
                  ·(intro w hSw; (try dsimp only at hSw); go_simp; first | done | with_reducible rfl)
                  try simp only [Act.put, sT, sZ, sS]
                  refine tk1 1 ⟨some 83, _, _, _, _, _⟩ ?_ rfl hH0 ?_ ?_
                  rotate_left
                  ·(intro w hSw; (try dsimp only at hSw); go_simp; first | done | with_reducible rfl)
                  try simp only [Act.put, sT, sZ, sS]
                  refine tk1 2 ⟨some 84, _, _, _, _, _⟩ ?_ rfl hH0 ?_ ?_
                  rotate_left
                  ·(intro w hSw; (try dsimp only at hSw); go_simp; first | done | with_reducible rfl)
                  try simp only [Act.put, sT, sZ, sS]
                  refine tk1 3 ⟨some 85, _, _, _, _, _⟩ ?_ rfl hH0 ?_ ?_
                  rotate_left
                  ·(intro w hSw; (try dsimp only at hSw); go_simp; first | done | with_reducible rfl)
                  try simp only [Act.put, sT, sZ, sS]
                  refine tk1 4 ⟨some 86, _, _, _, _, _⟩ ?_ rfl hH0 ?_ ?_
                  rotate_left
                  ·(intro w hSw; (try dsimp only at hSw); go_simp; first | done | with_reducible rfl)
                  try simp only [Act.put, sT, sZ, sS]
                  refine tk1 5 ⟨some 87, _, _, _, _, _⟩ ?_ rfl hH0 ?_ ?_
                  rotate_left
                  ·(intro w hSw; (try dsimp only at hSw); go_simp; first | done | with_reducible rfl)
                  try simp only [Act.put, sT, sZ, sS]
                  refine tk1 6 ⟨some 88, _, _, _, _, _⟩ ?_ rfl hH0 ?_ ?_
                  rotate_left
                  ·(intro w hSw; (try dsimp only at hSw); go_simp; first | done | with_reducible rfl)
                  try simp only [Act.put, sT, sZ, sS]
                  refine tk1 7 ⟨some 89, _, _, _, _, _⟩ ?_ rfl hH0 ?_ ?_
                  rotate_left
                  ·(intro w hSw; (try dsimp only at hSw); go_simp; first | done | with_reducible rfl)
                  try simp only [Act.put, sT, sZ, sS]
                  refine tk1 8 ⟨some 90, _, _, _, _, _⟩ ?_ rfl hH0 ?_ ?_
                  rotate_left
                  ·(intro w hSw; (try dsimp only at hSw); go_simp; first | done | with_reducible rfl)
                  try simp only [Act.put, sT, sZ, sS]
                  refine tk1 9 ⟨some 91, _, _, _, _, _⟩ ?_ rfl hH0 ?_ ?_
                  rotate_left
                  ·(intro w hSw; (try dsimp only at hSw); go_simp; first | done | with_reducible rfl)
                  try simp only [Act.put, sT, sZ, sS]
                  refine tk1 10 ⟨some 92, _, _, _, _, _⟩ ?_ rfl hH0 ?_ ?_
                  rotate_left
                  ·(intro w hSw; (try dsimp only at hSw); go_simp; first | done | with_reducible rfl)
                  try simp only [Act.put, sT, sZ, sS]
                  refine tk1 11 ⟨some 93, _, _, _, _, _⟩ ?_ rfl hH0 ?_ ?_
                  rotate_left
                  ·(intro w hSw; (try dsimp only at hSw); go_simp; first | done | with_reducible rfl)
                  try simp only [Act.put, sT, sZ, sS]
                  refine tk1 12 ⟨some 94, _, _, _, _, _⟩ ?_ rfl hH0 ?_ ?_
                  rotate_left
                  ·(intro w hSw; (try dsimp only at hSw); go_simp; first | done | with_reducible rfl)
                  try simp only [Act.put, sT, sZ, sS]
                  refine tk1 13 ⟨some 95, _, _, _, _, _⟩ ?_ rfl hH0 ?_ ?_
                  rotate_left
                  ·(intro w hSw; (try dsimp only at hSw); go_simp; first | done | with_reducible rfl)
                  try simp only [Act.put, sT, sZ, sS]
                  refine tk1 14 ⟨some 96, _, _, _, _, _⟩ ?_ rfl hH0 ?_ ?_
                  rotate_left
                  ·(intro w hSw; (try dsimp only at hSw); go_simp; first | done | with_reducible rfl)
                  try simp only [Act.put, sT, sZ, sS]
                  refine tk1 15 ⟨some 97, _, _, _, _, _⟩ ?_ rfl hH0 ?_ ?_
                  rotate_left
                  ·(intro w hSw; (try dsimp only at hSw); go_simp; first | done | with_reducible rfl)
                  try simp only [Act.put, sT, sZ, sS]
                  refine tk1 16 ⟨some 98, _, _, _, _, _⟩ ?_ rfl hH0 ?_ ?_
                  rotate_left
                  ·(intro w hSw; (try dsimp only at hSw); go_simp; first | done | with_reducible rfl)
                  try simp only [Act.put, sT, sZ, sS]
                  refine tk1 17 ⟨some 99, _, _, _, _, _⟩ ?_ rfl hH0 ?_ ?_
                  rotate_left
                  ·(intro w hSw; (try dsimp only at hSw); go_simp; first | done | with_reducible rfl)
                  try simp only [Act.put, sT, sZ, sS]
                  refine wpAnyH_ready (rs := [18]) (by as_aux_lemma => kernel_rfl) (by simp) ?_
                  refine AllReadyH.cons (o := ⟨some 100, _, _, _, _, _⟩) rfl (fun K hK => ?_) ?_
                  ·rw [if_pos (by as_aux_lemma => kernel_rfl)]
                   go_simp
                   refine (HALL.out _).mono ?_
                   rintro e wq ⟨rfl, rfl⟩
                   refine hK.out _ _ (hH0) (fun hH1 => ?_)
                   clear hK K
                   try simp only [sT, sZ, sS]
                   refine tk1 19 ⟨some 101, _, _, _, _, _⟩ ?_ rfl hH1 ?_ ?_
                   rotate_left
                   ·(intro w hSw; (try dsimp only at hSw); go_simp; first | done | with_reducible rfl)
                   try simp only [Act.put, sT, sZ, sS]
                   refine tk1 20 ⟨some 102, _, _, _, _, _⟩ ?_ rfl hH1 ?_ ?_
                   rotate_left
                   ·(intro w hSw; (try dsimp only at hSw); go_simp; first | done | with_reducible rfl)
                   try simp only [Act.put, sT, sZ, sS]
                   refine tk1 21 ⟨some 103, _, _, _, _, _⟩ ?_ rfl hH1 ?_ ?_
                   rotate_left
                   ·(intro w hSw; (try dsimp only at hSw); go_simp; first | done | with_reducible rfl)
                   try simp only [Act.put, sT, sZ, sS]
                   refine tk1 22 ⟨some 104, _, _, _, _, _⟩ ?_ rfl hH1 ?_ ?_
                   rotate_left
                   ·(intro w hSw; (try dsimp only at hSw); go_simp; first | done | with_reducible rfl)
                   try simp only [Act.put, sT, sZ, sS]
                   refine tk1 23 ⟨some 105, _, _, _, _, _⟩ ?_ rfl hH1 ?_ ?_
                   rotate_left
                   ·(intro w hSw; (try dsimp only at hSw); go_simp; first | done | with_reducible rfl)
                   try simp only [Act.put, sT, sZ, sS]
                   refine tk1 24 ⟨some 106, _, _, _, _, _⟩ ?_ rfl hH1 ?_ ?_
                   rotate_left
                   ·(intro w hSw; (try dsimp only at hSw); go_simp; first | done | with_reducible rfl)
                   try simp only [Act.put, sT, sZ, sS]
                   refine tk1 25 ⟨some 107, _, _, _, _, _⟩ ?_ rfl hH1 ?_ ?_
                   rotate_left
                   ·(intro w hSw; (try dsimp only at hSw); go_simp; first | done | with_reducible rfl)
                   try simp only [Act.put, sT, sZ, sS]
                   refine tk1 26 ⟨some 108, _, _, _, _, _⟩ ?_ rfl hH1 ?_ ?_
                   rotate_left
                   ·(intro w hSw; (try dsimp only at hSw); go_simp; first | done | with_reducible rfl)
                   try simp only [Act.put, sT, sZ, sS]
                   refine tk1 27 ⟨some 109, _, _, _, _, _⟩ ?_ rfl hH1 ?_ ?_
                   rotate_left
                   ·(intro w hSw; (try dsimp only at hSw); go_simp; first | done | with_reducible rfl)
                   try simp only [Act.put, sT, sZ, sS]
                   refine tk1 28 ⟨some 110, _, _, _, _, _⟩ ?_ rfl hH1 ?_ ?_
                   rotate_left
                   ·(intro w hSw; (try dsimp only at hSw); go_simp; first | done | with_reducible rfl)
                   try simp only [Act.put, sT, sZ, sS]
                   refine tk1 29 ⟨some 111, _, _, _, _, _⟩ ?_ rfl hH1 ?_ ?_
                   rotate_left
                   ·(intro w hSw; (try dsimp only at hSw); go_simp; first | done | with_reducible rfl)
                   try simp only [Act.put, sT, sZ, sS]
                   refine tk1 30 ⟨some 112, _, _, _, _, _⟩ ?_ rfl hH1 ?_ ?_
                   rotate_left
                   ·(intro w hSw; (try dsimp only at hSw); go_simp; first | done | with_reducible rfl)
                   try simp only [Act.put, sT, sZ, sS]
                   refine tk1 31 ⟨some 113, _, _, _, _, _⟩ ?_ rfl hH1 ?_ ?_
                   rotate_left
                   ·(intro w hSw; (try dsimp only at hSw); go_simp; first | done | with_reducible rfl)
                   try simp only [Act.put, sT, sZ, sS]
                   refine tk1 32 ⟨some 114, _, _, _, _, _⟩ ?_ rfl hH1 ?_ ?_
                   rotate_left
                   ·(intro w hSw; (try dsimp only at hSw); go_simp; first | done | with_reducible rfl)
                   try simp only [Act.put, sT, sZ, sS]
                   refine tk1 34 ⟨some 116, _, _, _, _, _⟩ ?_ rfl hH1 ?_ ?_
                   rotate_left
                   ·(intro w hSw; (try dsimp only at hSw); go_simp; first | done | with_reducible rfl)
                   try simp only [Act.put, sT, sZ, sS]
                   refine tk1 35 ⟨some 117, _, _, _, _, _⟩ ?_ rfl hH1 ?_ ?_
                   rotate_left
                   ·(intro w hSw; (try dsimp only at hSw); go_simp; first | done | with_reducible rfl)
                   try simp only [Act.put, sT, sZ, sS]
                   refine tk1 36 ⟨some 118, _, _, _, _, _⟩ ?_ rfl hH1 ?_ ?_
                   rotate_left
                   ·(intro w hSw; (try dsimp only at hSw); go_simp; first | done | with_reducible rfl)
                   try simp only [Act.put, sT, sZ, sS]
                   refine wpAnyH_ready (rs := [33]) (by as_aux_lemma => kernel_rfl) (by simp) ?_
                   refine AllReadyH.cons (o := ⟨some 115, _, _, _, _, _⟩) rfl (fun K hK => ?_) ?_
                   ·rw [if_pos (by as_aux_lemma => kernel_rfl)]
                    go_simp
                    refine (HSU.out _ hH1.1).mono ?_
                    rintro e wy33 ⟨rfl, hby33⟩
                    refine hK.out _ _ (⟨hH1.1.trans (hby33.mono hH1.1.size), cellsAt_below hH1.2.1 hby33, cellsAt_below hH1.2.2.1 hby33, cellsAt_below hH1.2.2.2.1 hby33, cellsAt_below hH1.2.2.2.2.1 hby33, cellsAt_below hH1.2.2.2.2.2.1 hby33, cellsAt_below hH1.2.2.2.2.2.2.1 hby33, cellsAt_below hH1.2.2.2.2.2.2.2.1 hby33, cellsAt_below hH1.2.2.2.2.2.2.2.2.1 hby33, cellsAt_below hH1.2.2.2.2.2.2.2.2.2.1 hby33, cellsAt_below hH1.2.2.2.2.2.2.2.2.2.2 hby33⟩) (fun hH2 => ?_)
                    clear hK K
                    try simp only [sT, sZ, sS]
                    refine wpAnyH_ready (rs := [37]) (by as_aux_lemma => kernel_rfl) (by simp) ?_
                    refine AllReadyH.cons (o := ⟨some 119, _, _, _, _, _⟩) rfl (fun K hK => ?_) ?_
                    ·rw [if_pos (by as_aux_lemma => kernel_rfl)]
                     go_simp
                     refine (HLS.out _ hH2.1).mono ?_
                     rintro e wy37 ⟨rfl, hby37⟩
                     refine hK.out _ _ (⟨hH2.1.trans (hby37.mono hH2.1.size), cellsAt_below hH2.2.1 hby37, cellsAt_below hH2.2.2.1 hby37, cellsAt_below hH2.2.2.2.1 hby37, cellsAt_below hH2.2.2.2.2.1 hby37, cellsAt_below hH2.2.2.2.2.2.1 hby37, cellsAt_below hH2.2.2.2.2.2.2.1 hby37, cellsAt_below hH2.2.2.2.2.2.2.2.1 hby37, cellsAt_below hH2.2.2.2.2.2.2.2.2.1 hby37, cellsAt_below hH2.2.2.2.2.2.2.2.2.2.1 hby37, cellsAt_below hH2.2.2.2.2.2.2.2.2.2.2 hby37⟩) (fun hH3 => ?_)
                     clear hK K
                     try simp only [sT, sZ, sS]
                     refine tk1 38 ⟨some 120, _, _, _, _, _⟩ ?_ rfl hH3 ?_ ?_
                     rotate_left
                     ·(intro w hSw; (try dsimp only at hSw); go_simp; first | done | with_reducible rfl)
                     try simp only [Act.put, sT, sZ, sS]
                     refine tk1 39 ⟨some 121, _, _, _, _, _⟩ ?_ rfl hH3 ?_ ?_
                     rotate_left
                     ·(intro w hSw; (try dsimp only at hSw); go_simp; first | done | with_reducible rfl)
                     try simp only [Act.put, sT, sZ, sS]
                     refine tk1 40 ⟨some 122, _, _, _, _, _⟩ ?_ rfl hH3 ?_ ?_
                     rotate_left
                     ·(intro w hSw; (try dsimp only at hSw); go_simp; first | done | with_reducible rfl)
                     try simp only [Act.put, sT, sZ, sS]
                     refine tk1 41 ⟨some 123, _, _, _, _, _⟩ ?_ rfl hH3 ?_ ?_
                     rotate_left
                     ·(intro w hSw; (try dsimp only at hSw); go_simp; first | done | with_reducible rfl)
                     try simp only [Act.put, sT, sZ, sS]
                     refine tk1 42 ⟨some 124, _, _, _, _, _⟩ ?_ rfl hH3 ?_ ?_
                     rotate_left
                     ·(intro w hSw; (try dsimp only at hSw); go_simp; first | done | with_reducible rfl)
                     try simp only [Act.put, sT, sZ, sS]
                     refine tk1 43 ⟨some 125, _, _, _, _, _⟩ ?_ rfl hH3 ?_ ?_
                     rotate_left
                     ·(intro w hSw; (try dsimp only at hSw); go_simp; first | done | with_reducible rfl)
                     try simp only [Act.put, sT, sZ, sS]
                     refine tk1 44 ⟨some 126, _, _, _, _, _⟩ ?_ rfl hH3 ?_ ?_
                     rotate_left
                     ·(intro w hSw; (try dsimp only at hSw); go_simp; first | done | with_reducible rfl)
                     try simp only [Act.put, sT, sZ, sS]
                     refine tk1 45 ⟨some 127, _, _, _, _, _⟩ ?_ rfl hH3 ?_ ?_
                     rotate_left
                     ·(intro w hSw; (try dsimp only at hSw); go_simp; first | done | with_reducible rfl)
                     try simp only [Act.put, sT, sZ, sS]
                     refine tk1 46 ⟨some 128, _, _, _, _, _⟩ ?_ rfl hH3 ?_ ?_
                     rotate_left
                     ·(intro w hSw; (try dsimp only at hSw); go_simp; first | done | with_reducible rfl)
                     try simp only [Act.put, sT, sZ, sS]
                     refine tk1 47 ⟨some 129, _, _, _, _, _⟩ ?_ rfl hH3 ?_ ?_
                     rotate_left
                     ·(intro w hSw; (try dsimp only at hSw); go_simp; first | done | with_reducible rfl)
                     try simp only [Act.put, sT, sZ, sS]
                     refine tk1 48 ⟨some 130, _, _, _, _, _⟩ ?_ rfl hH3 ?_ ?_
                     rotate_left
                     ·(intro w hSw; (try dsimp only at hSw); go_simp; first | done | with_reducible rfl)
                     try simp only [Act.put, sT, sZ, sS]
                     refine tk1 49 ⟨some 131, _, _, _, _, _⟩ ?_ rfl hH3 ?_ ?_
                     rotate_left
                     ·(intro w hSw; (try dsimp only at hSw); go_simp; first | done | with_reducible rfl)
                     try simp only [Act.put, sT, sZ, sS]
                     refine tk1 50 ⟨some 132, _, _, _, _, _⟩ ?_ rfl hH3 ?_ ?_
                     rotate_left
                     ·(intro w hSw; (try dsimp only at hSw); go_simp; first | done | with_reducible rfl)
                     try simp only [Act.put, sT, sZ, sS]
                     refine tk1 51 ⟨some 133, _, _, _, _, _⟩ ?_ rfl hH3 ?_ ?_
                     rotate_left
                     ·(intro w hSw; (try dsimp only at hSw); go_simp; first | done | with_reducible rfl)
                     try simp only [Act.put, sT, sZ, sS]
                     refine tk1 52 ⟨some 134, _, _, _, _, _⟩ ?_ rfl hH3 ?_ ?_
                     rotate_left
                     ·(intro w hSw; (try dsimp only at hSw); go_simp; first | done | with_reducible rfl)
                     try simp only [Act.put, sT, sZ, sS]
                     refine wpAnyH_ready (rs := [53]) (by as_aux_lemma => kernel_rfl) (by simp) ?_
                     refine AllReadyH.cons (o := ⟨some 135, _, _, _, _, _⟩) rfl (fun K hK => ?_) ?_
                     ·rw [if_pos (by as_aux_lemma => kernel_rfl)]
                      go_simp
                      refine (HLE.out _ hH3.1).mono ?_
                      rintro e wy53 ⟨rfl, hby53⟩
                      refine hK.out _ _ (⟨hH3.1.trans (hby53.mono hH3.1.size), cellsAt_below hH3.2.1 hby53, cellsAt_below hH3.2.2.1 hby53, cellsAt_below hH3.2.2.2.1 hby53, cellsAt_below hH3.2.2.2.2.1 hby53, cellsAt_below hH3.2.2.2.2.2.1 hby53, cellsAt_below hH3.2.2.2.2.2.2.1 hby53, cellsAt_below hH3.2.2.2.2.2.2.2.1 hby53, cellsAt_below hH3.2.2.2.2.2.2.2.2.1 hby53, cellsAt_below hH3.2.2.2.2.2.2.2.2.2.1 hby53, cellsAt_below hH3.2.2.2.2.2.2.2.2.2.2 hby53⟩) (fun hH4 => ?_)
                      clear hK K
                      try simp only [sT, sZ, sS]
                      refine tk1 54 ⟨some 136, _, _, _, _, _⟩ ?_ rfl hH4 ?_ ?_
                      rotate_left
                      ·(intro w hSw; (try dsimp only at hSw); go_simp; first | done | with_reducible rfl)
                      try simp only [Act.put, sT, sZ, sS]
                      refine tk1 55 ⟨some 137, _, _, _, _, _⟩ ?_ rfl hH4 ?_ ?_
                      rotate_left
                      ·(intro w hSw; (try dsimp only at hSw); go_simp; first | done | with_reducible rfl)
                      try simp only [Act.put, sT, sZ, sS]
                      refine tk1 56 ⟨some 138, _, _, _, _, _⟩ ?_ rfl hH4 ?_ ?_
                      rotate_left
                      ·(intro w hSw; (try dsimp only at hSw); go_simp; first | done | with_reducible rfl)
                      try simp only [Act.put, sT, sZ, sS]
                      refine wpAnyH_done (by as_aux_lemma => kernel_rfl) ?_ _
                      go_wp2_with fail
                      go_ret2
                      exact ⟨HBC.out.trans (hH4.1.mono HBC.out.size), _, by rw [HQ.out]; rfl, by rw [HQ.out]; exact OwnU.nil _ _⟩
                     exact AllReadyH.nil
                    exact AllReadyH.nil
                   exact AllReadyH.nil
                  exact AllReadyH.nil
              ·have bz : (Z != Y) = true := by simp [g3]
               have HQ : Hid (q = ([], 50)) := Lib.hid (HTS.out.2.1 HBF2.out (tabsL_bad l n i HIN.out ts HTAB.out (.inl (by rw [HBT.out]; simp [g3]))))
               clear hpm hpe hat hi16 hN16 hpb hmb hNl hN6b hat4w hY hYb hZ hV hal htx hbx g1 g2 g3 hal2
               go_upto_region 10 with fail
               as_aux_lemma =>
                refine wp_region_held_drew (S := fun w' => Below wt.heap.size wt w' ∧ w'.cell? ⟨X, 0, none⟩ = some (.int .u8 x0) ∧ w'.cell? ⟨X, 1, none⟩ = some (.int .u8 x1) ∧ w'.cell? ⟨X, 2, none⟩ = some (.int .u8 x2) ∧ w'.cell? ⟨X, 3, none⟩ = some (.int .u8 x3) ∧ w'.cell? ⟨X, 4, none⟩ = some (.int .i64 (p : Int)) ∧ w'.cell? ⟨X, 5, none⟩ = some (.int .i64 (m : Int))) (by as_aux_lemma => kernel_rfl) (⟨(Below.refl _ wt).drew, t0, t1, t2, t3, t4, t5⟩) (fun hH0 => ?_)
                change wpAnyH _ _ _ _ _ 57 #[false, false, false, false, false, false, false, false, false, false, false, false, false, false, false, false, false, false, false, false, false, false, false, false, false, false, false, false, false, false, false, false, false, false, false, false, false, false, false, false, false, false, false, false, false, false, false, false, false, false, false, false, false, false, false, false, false] _ _
                refine tk1 0 ⟨some 82, _, _, _, _, _⟩ ?_ rfl hH0 ?_ ?_
                rotate_left
                ·(intro w hSw; (try dsimp only at hSw); go_simp; first | done | with_reducible rfl)
                try simp only [Act.put, sT, sZ, sS]
                refine tk1 1 ⟨some 83, _, _, _, _, _⟩ ?_ rfl hH0 ?_ ?_
                rotate_left
                ·(intro w hSw; (try dsimp only at hSw); go_simp; first | done | with_reducible rfl)
                try simp only [Act.put, sT, sZ, sS]
                refine tk1 2 ⟨some 84, _, _, _, _, _⟩ ?_ rfl hH0 ?_ ?_
                rotate_left
                ·(intro w hSw; (try dsimp only at hSw); go_simp; first | done | with_reducible rfl)
                try simp only [Act.put, sT, sZ, sS]
                refine tk1 3 ⟨some 85, _, _, _, _, _⟩ ?_ rfl hH0 ?_ ?_
                rotate_left
                ·(intro w hSw; (try dsimp only at hSw); go_simp; first | done | with_reducible rfl)
                try simp only [Act.put, sT, sZ, sS]
                refine tk1 4 ⟨some 86, _, _, _, _, _⟩ ?_ rfl hH0 ?_ ?_
                rotate_left
                ·(intro w hSw; (try dsimp only at hSw); go_simp; first | done | with_reducible rfl)
                try simp only [Act.put, sT, sZ, sS]
                refine tk1 5 ⟨some 87, _, _, _, _, _⟩ ?_ rfl hH0 ?_ ?_
                rotate_left
                ·(intro w hSw; (try dsimp only at hSw); go_simp; first | done | with_reducible rfl)
                try simp only [Act.put, sT, sZ, sS]
                refine tk1 6 ⟨some 88, _, _, _, _, _⟩ ?_ rfl hH0 ?_ ?_
                rotate_left
                ·(intro w hSw; (try dsimp only at hSw); go_simp; first | done | with_reducible rfl)
                try simp only [Act.put, sT, sZ, sS]
                refine tk1 7 ⟨some 89, _, _, _, _, _⟩ ?_ rfl hH0 ?_ ?_
                rotate_left
                ·(intro w hSw; (try dsimp only at hSw); go_simp; first | done | with_reducible rfl)
                try simp only [Act.put, sT, sZ, sS]
                refine tk1 8 ⟨some 90, _, _, _, _, _⟩ ?_ rfl hH0 ?_ ?_
                rotate_left
                ·(intro w hSw; (try dsimp only at hSw); go_simp; first | done | with_reducible rfl)
                try simp only [Act.put, sT, sZ, sS]
                refine tk1 9 ⟨some 91, _, _, _, _, _⟩ ?_ rfl hH0 ?_ ?_
                rotate_left
                ·(intro w hSw; (try dsimp only at hSw); go_simp; first | done | with_reducible rfl)
                try simp only [Act.put, sT, sZ, sS]
                refine tk1 10 ⟨some 92, _, _, _, _, _⟩ ?_ rfl hH0 ?_ ?_
                rotate_left
                ·(intro w hSw; (try dsimp only at hSw); go_simp; first | done | with_reducible rfl)
                try simp only [Act.put, sT, sZ, sS]
                refine tk1 11 ⟨some 93, _, _, _, _, _⟩ ?_ rfl hH0 ?_ ?_
                rotate_left
                ·(intro w hSw; (try dsimp only at hSw); go_simp; first | done | with_reducible rfl)
                try simp only [Act.put, sT, sZ, sS]
                refine tk1 12 ⟨some 94, _, _, _, _, _⟩ ?_ rfl hH0 ?_ ?_
                rotate_left
                ·(intro w hSw; (try dsimp only at hSw); go_simp; first | done | with_reducible rfl)
                try simp only [Act.put, sT, sZ, sS]
                refine tk1 13 ⟨some 95, _, _, _, _, _⟩ ?_ rfl hH0 ?_ ?_
                rotate_left
                ·(intro w hSw; (try dsimp only at hSw); go_simp; first | done | with_reducible rfl)
                try simp only [Act.put, sT, sZ, sS]
                refine tk1 14 ⟨some 96, _, _, _, _, _⟩ ?_ rfl hH0 ?_ ?_
                rotate_left
                ·(intro w hSw; (try dsimp only at hSw); go_simp; first | done | with_reducible rfl)
                try simp only [Act.put, sT, sZ, sS]
                refine tk1 15 ⟨some 97, _, _, _, _, _⟩ ?_ rfl hH0 ?_ ?_
                rotate_left
                ·(intro w hSw; (try dsimp only at hSw); go_simp; first | done | with_reducible rfl)
                try simp only [Act.put, sT, sZ, sS]
                refine tk1 16 ⟨some 98, _, _, _, _, _⟩ ?_ rfl hH0 ?_ ?_
                rotate_left
                ·(intro w hSw; (try dsimp only at hSw); go_simp; first | done | with_reducible rfl)
                try simp only [Act.put, sT, sZ, sS]
                refine tk1 17 ⟨some 99, _, _, _, _, _⟩ ?_ rfl hH0 ?_ ?_
                rotate_left
                ·(intro w hSw; (try dsimp only at hSw); go_simp; first | done | with_reducible rfl)
                try simp only [Act.put, sT, sZ, sS]
                refine wpAnyH_ready (rs := [18]) (by as_aux_lemma => kernel_rfl) (by simp) ?_
                refine AllReadyH.cons (o := ⟨some 100, _, _, _, _, _⟩) rfl (fun K hK => ?_) ?_
                ·rw [if_pos (by as_aux_lemma => kernel_rfl)]
                 go_simp
                 refine (HALL.out _).mono ?_
                 rintro e wq ⟨rfl, rfl⟩
                 refine hK.out _ _ (hH0) (fun hH1 => ?_)
                 clear hK K
                 try simp only [sT, sZ, sS]
                 refine tk1 19 ⟨some 101, _, _, _, _, _⟩ ?_ rfl hH1 ?_ ?_
                 rotate_left
                 ·(intro w hSw; (try dsimp only at hSw); go_simp; first | done | with_reducible rfl)
                 try simp only [Act.put, sT, sZ, sS]
                 refine tk1 20 ⟨some 102, _, _, _, _, _⟩ ?_ rfl hH1 ?_ ?_
                 rotate_left
                 ·(intro w hSw; (try dsimp only at hSw); go_simp; first | done | with_reducible rfl)
                 try simp only [Act.put, sT, sZ, sS]
                 refine tk1 21 ⟨some 103, _, _, _, _, _⟩ ?_ rfl hH1 ?_ ?_
                 rotate_left
                 ·(intro w hSw; (try dsimp only at hSw); go_simp; first | done | with_reducible rfl)
                 try simp only [Act.put, sT, sZ, sS]
                 refine tk1 22 ⟨some 104, _, _, _, _, _⟩ ?_ rfl hH1 ?_ ?_
                 rotate_left
                 ·(intro w hSw; (try dsimp only at hSw); go_simp; first | done | with_reducible rfl)
                 try simp only [Act.put, sT, sZ, sS]
                 refine tk1 23 ⟨some 105, _, _, _, _, _⟩ ?_ rfl hH1 ?_ ?_
                 rotate_left
                 ·(intro w hSw; (try dsimp only at hSw); go_simp; first | done | with_reducible rfl)
                 try simp only [Act.put, sT, sZ, sS]
                 refine tk1 24 ⟨some 106, _, _, _, _, _⟩ ?_ rfl hH1 ?_ ?_
                 rotate_left
                 ·(intro w hSw; (try dsimp only at hSw); go_simp; first | done | with_reducible rfl)
                 try simp only [Act.put, sT, sZ, sS]
                 refine tk1 25 ⟨some 107, _, _, _, _, _⟩ ?_ rfl hH1 ?_ ?_
                 rotate_left
                 ·(intro w hSw; (try dsimp only at hSw); go_simp; first | done | with_reducible rfl)
                 try simp only [Act.put, sT, sZ, sS]
                 refine tk1 26 ⟨some 108, _, _, _, _, _⟩ ?_ rfl hH1 ?_ ?_
                 rotate_left
                 ·(intro w hSw; (try dsimp only at hSw); go_simp; first | done | with_reducible rfl)
                 try simp only [Act.put, sT, sZ, sS]
                 refine tk1 27 ⟨some 109, _, _, _, _, _⟩ ?_ rfl hH1 ?_ ?_
                 rotate_left
                 ·(intro w hSw; (try dsimp only at hSw); go_simp; first | done | with_reducible rfl)
                 try simp only [Act.put, sT, sZ, sS]
                 refine tk1 28 ⟨some 110, _, _, _, _, _⟩ ?_ rfl hH1 ?_ ?_
                 rotate_left
                 ·(intro w hSw; (try dsimp only at hSw); go_simp; first | done | with_reducible rfl)
                 try simp only [Act.put, sT, sZ, sS]
                 refine tk1 29 ⟨some 111, _, _, _, _, _⟩ ?_ rfl hH1 ?_ ?_
                 rotate_left
                 ·(intro w hSw; (try dsimp only at hSw); go_simp; first | done | with_reducible rfl)
                 try simp only [Act.put, sT, sZ, sS]
                 refine tk1 30 ⟨some 112, _, _, _, _, _⟩ ?_ rfl hH1 ?_ ?_
                 rotate_left
                 ·(intro w hSw; (try dsimp only at hSw); go_simp; first | done | with_reducible rfl)
                 try simp only [Act.put, sT, sZ, sS]
                 refine tk1 31 ⟨some 113, _, _, _, _, _⟩ ?_ rfl hH1 ?_ ?_
                 rotate_left
                 ·(intro w hSw; (try dsimp only at hSw); go_simp; first | done | with_reducible rfl)
                 try simp only [Act.put, sT, sZ, sS]
                 refine tk1 32 ⟨some 114, _, _, _, _, _⟩ ?_ rfl hH1 ?_ ?_
                 rotate_left
                 ·(intro w hSw; (try dsimp only at hSw); go_simp; first | done | with_reducible rfl)
                 try simp only [Act.put, sT, sZ, sS]
                 refine tk1 34 ⟨some 116, _, _, _, _, _⟩ ?_ rfl hH1 ?_ ?_
                 rotate_left
                 ·(intro w hSw; (try dsimp only at hSw); go_simp; first | done | with_reducible rfl)
                 try simp only [Act.put, sT, sZ, sS]
                 refine tk1 35 ⟨some 117, _, _, _, _, _⟩ ?_ rfl hH1 ?_ ?_
                 rotate_left
                 ·(intro w hSw; (try dsimp only at hSw); go_simp; first | done | with_reducible rfl)
                 try simp only [Act.put, sT, sZ, sS]
                 refine tk1 36 ⟨some 118, _, _, _, _, _⟩ ?_ rfl hH1 ?_ ?_
                 rotate_left
                 ·(intro w hSw; (try dsimp only at hSw); go_simp; first | done | with_reducible rfl)
                 try simp only [Act.put, sT, sZ, sS]
                 refine wpAnyH_ready (rs := [33]) (by as_aux_lemma => kernel_rfl) (by simp) ?_
                 refine AllReadyH.cons (o := ⟨some 115, _, _, _, _, _⟩) rfl (fun K hK => ?_) ?_
                 ·rw [if_pos (by as_aux_lemma => kernel_rfl)]
                  go_simp
                  refine (HSU.out _ hH1.1).mono ?_
                  rintro e wy33 ⟨rfl, hby33⟩
                  refine hK.out _ _ (⟨hH1.1.trans (hby33.mono hH1.1.size), cellsAt_below hH1.2.1 hby33, cellsAt_below hH1.2.2.1 hby33, cellsAt_below hH1.2.2.2.1 hby33, cellsAt_below hH1.2.2.2.2.1 hby33, cellsAt_below hH1.2.2.2.2.2.1 hby33, cellsAt_below hH1.2.2.2.2.2.2 hby33⟩) (fun hH2 => ?_)
                  clear hK K
                  try simp only [sT, sZ, sS]
                  refine wpAnyH_ready (rs := [37]) (by as_aux_lemma => kernel_rfl) (by simp) ?_
                  refine AllReadyH.cons (o := ⟨some 119, _, _, _, _, _⟩) rfl (fun K hK => ?_) ?_
                  ·rw [if_pos (by as_aux_lemma => kernel_rfl)]
                   go_simp
                   refine (HLS.out _ hH2.1).mono ?_
                   rintro e wy37 ⟨rfl, hby37⟩
                   refine hK.out _ _ (⟨hH2.1.trans (hby37.mono hH2.1.size), cellsAt_below hH2.2.1 hby37, cellsAt_below hH2.2.2.1 hby37, cellsAt_below hH2.2.2.2.1 hby37, cellsAt_below hH2.2.2.2.2.1 hby37, cellsAt_below hH2.2.2.2.2.2.1 hby37, cellsAt_below hH2.2.2.2.2.2.2 hby37⟩) (fun hH3 => ?_)
                   clear hK K
                   try simp only [sT, sZ, sS]
                   refine tk1 38 ⟨some 120, _, _, _, _, _⟩ ?_ rfl hH3 ?_ ?_
                   rotate_left
                   ·(intro w hSw; (try dsimp only at hSw); go_simp; first | done | with_reducible rfl)
                   try simp only [Act.put, sT, sZ, sS]
                   refine tk1 39 ⟨some 121, _, _, _, _, _⟩ ?_ rfl hH3 ?_ ?_
                   rotate_left
                   ·(intro w hSw; (try dsimp only at hSw); go_simp; first | done | with_reducible rfl)
                   try simp only [Act.put, sT, sZ, sS]
                   refine tk1 40 ⟨some 122, _, _, _, _, _⟩ ?_ rfl hH3 ?_ ?_
                   rotate_left
                   ·(intro w hSw; (try dsimp only at hSw); go_simp; first | done | with_reducible rfl)
                   try simp only [Act.put, sT, sZ, sS]
                   refine tk1 41 ⟨some 123, _, _, _, _, _⟩ ?_ rfl hH3 ?_ ?_
                   rotate_left
                   ·(intro w hSw; (try dsimp only at hSw); go_simp; first | done | with_reducible rfl)
                   try simp only [Act.put, sT, sZ, sS]
                   refine tk0 42 ⟨some 124, _, _, _, _, _⟩ rfl hH3 ?_
                   try simp only [Act.put, sT, sZ, sS]
                   refine tk0 43 ⟨some 125, _, _, _, _, _⟩ rfl hH3 ?_
                   try simp only [Act.put, sT, sZ, sS]
                   refine tk0 44 ⟨some 126, _, _, _, _, _⟩ rfl hH3 ?_
                   try simp only [Act.put, sT, sZ, sS]
                   refine tk0 45 ⟨some 127, _, _, _, _, _⟩ rfl hH3 ?_
                   try simp only [Act.put, sT, sZ, sS]
                   refine tk0 46 ⟨some 128, _, _, _, _, _⟩ rfl hH3 ?_
                   try simp only [Act.put, sT, sZ, sS]
                   refine tk0 47 ⟨some 129, _, _, _, _, _⟩ rfl hH3 ?_
                   try simp only [Act.put, sT, sZ, sS]
                   refine tk0 48 ⟨some 130, _, _, _, _, _⟩ rfl hH3 ?_
                   try simp only [Act.put, sT, sZ, sS]
                   refine tk0 49 ⟨some 131, _, _, _, _, _⟩ rfl hH3 ?_
                   try simp only [Act.put, sT, sZ, sS]
                   refine tk0 50 ⟨some 132, _, _, _, _, _⟩ rfl hH3 ?_
                   try simp only [Act.put, sT, sZ, sS]
                   refine tk0 51 ⟨some 133, _, _, _, _, _⟩ rfl hH3 ?_
                   try simp only [Act.put, sT, sZ, sS]
                   refine tk0 52 ⟨some 134, _, _, _, _, _⟩ rfl hH3 ?_
                   try simp only [Act.put, sT, sZ, sS]
                   refine tk0 53 ⟨some 135, _, _, _, _, _⟩ rfl hH3 ?_
                   try simp only [Act.put, sT, sZ, sS]
                   refine tk0 54 ⟨some 136, _, _, _, _, _⟩ rfl hH3 ?_
                   try simp only [Act.put, sT, sZ, sS]
                   refine tk0 55 ⟨some 137, _, _, _, _, _⟩ rfl hH3 ?_
                   try simp only [Act.put, sT, sZ, sS]
                   refine tk1 56 ⟨some 138, _, _, _, _, _⟩ ?_ rfl hH3 ?_ ?_
                   rotate_left
                   ·(intro w hSw; (try dsimp only at hSw); go_simp; first | done | with_reducible rfl)
                   try simp only [Act.put, sT, sZ, sS]
                   refine wpAnyH_done (by as_aux_lemma => kernel_rfl) ?_ _
                   go_wp2_with fail
                   go_ret2
                   exact ⟨HBC.out.trans (hH3.1.mono HBC.out.size), _, by rw [HQ.out]; rfl, by rw [HQ.out]; exact OwnU.nil _ _⟩
                  exact AllReadyH.nil
                 exact AllReadyH.nil
                exact AllReadyH.nil
           ·have bm : ((pm : Int) != 0) = true := by simp [g1]
            have HQ : Hid (q = ([], 50)) := Lib.hid (HTS.out.2.1 HBF2.out (tabsL_bad l n i HIN.out ts HTAB.out (.inl (by rw [HBT.out]; simp [g1]))))
            clear hpm hpe hat hi16 hN16 hpb hmb hNl hN6b hat4w hY hYb hZ hV hal htx hbx g1
            go_upto_region 10 with fail
            as_aux_lemma =>
             refine wp_region_held_drew (S := fun w' => Below wt.heap.size wt w' ∧ w'.cell? ⟨X, 0, none⟩ = some (.int .u8 x0) ∧ w'.cell? ⟨X, 1, none⟩ = some (.int .u8 x1) ∧ w'.cell? ⟨X, 2, none⟩ = some (.int .u8 x2) ∧ w'.cell? ⟨X, 3, none⟩ = some (.int .u8 x3) ∧ w'.cell? ⟨X, 4, none⟩ = some (.int .i64 (p : Int)) ∧ w'.cell? ⟨X, 5, none⟩ = some (.int .i64 (m : Int))) (by as_aux_lemma => kernel_rfl) (⟨(Below.refl _ wt).drew, t0, t1, t2, t3, t4, t5⟩) (fun hH0 => ?_)
             change wpAnyH _ _ _ _ _ 57 #[false, false, false, false, false, false, false, false, false, false, false, false, false, false, false, false, false, false, false, false, false, false, false, false, false, false, false, false, false, false, false, false, false, false, false, false, false, false, false, false, false, false, false, false, false, false, false, false, false, false, false, false, false, false, false, false, false] _ _
             refine tk1 0 ⟨some 82, _, _, _, _, _⟩ ?_ rfl hH0 ?_ ?_
             rotate_left
             ·(intro w hSw; (try dsimp only at hSw); go_simp; first | done | with_reducible rfl)
             try simp only [Act.put, sT, sZ, sS]
             refine tk1 1 ⟨some 83, _, _, _, _, _⟩ ?_ rfl hH0 ?_ ?_
             rotate_left
             ·(intro w hSw; (try dsimp only at hSw); go_simp; first | done | with_reducible rfl)
             try simp only [Act.put, sT, sZ, sS]
             refine tk1 2 ⟨some 84, _, _, _, _, _⟩ ?_ rfl hH0 ?_ ?_
             rotate_left
             ·(intro w hSw; (try dsimp only at hSw); go_simp; first | done | with_reducible rfl)
             try simp only [Act.put, sT, sZ, sS]
             refine tk1 3 ⟨some 85, _, _, _, _, _⟩ ?_ rfl hH0 ?_ ?_
             rotate_left
             ·(intro w hSw; (try dsimp only at hSw); go_simp; first | done | with_reducible rfl)
             try simp only [Act.put, sT, sZ, sS]
             refine tk1 4 ⟨some 86, _, _, _, _, _⟩ ?_ rfl hH0 ?_ ?_
             rotate_left
             ·(intro w hSw; (try dsimp only at hSw); go_simp; first | done | with_reducible rfl)
             try simp only [Act.put, sT, sZ, sS]
             refine tk0 5 ⟨some 87, _, _, _, _, _⟩ rfl hH0 ?_
             try simp only [Act.put, sT, sZ, sS]
             refine tk0 6 ⟨some 88, _, _, _, _, _⟩ rfl hH0 ?_
             try simp only [Act.put, sT, sZ, sS]
             refine tk0 7 ⟨some 89, _, _, _, _, _⟩ rfl hH0 ?_
             try simp only [Act.put, sT, sZ, sS]
             refine tk0 8 ⟨some 90, _, _, _, _, _⟩ rfl hH0 ?_
             try simp only [Act.put, sT, sZ, sS]
             refine tk0 9 ⟨some 91, _, _, _, _, _⟩ rfl hH0 ?_
             try simp only [Act.put, sT, sZ, sS]
             refine tk0 10 ⟨some 92, _, _, _, _, _⟩ rfl hH0 ?_
             try simp only [Act.put, sT, sZ, sS]
             refine tk1 11 ⟨some 93, _, _, _, _, _⟩ ?_ rfl hH0 ?_ ?_
             rotate_left
             ·(intro w hSw; (try dsimp only at hSw); go_simp; first | done | with_reducible rfl)
             try simp only [Act.put, sT, sZ, sS]
             refine tk1 12 ⟨some 94, _, _, _, _, _⟩ ?_ rfl hH0 ?_ ?_
             rotate_left
             ·(intro w hSw; (try dsimp only at hSw); go_simp; first | done | with_reducible rfl)
             try simp only [Act.put, sT, sZ, sS]
             refine tk0 13 ⟨some 95, _, _, _, _, _⟩ rfl hH0 ?_
             try simp only [Act.put, sT, sZ, sS]
             refine tk0 14 ⟨some 96, _, _, _, _, _⟩ rfl hH0 ?_
             try simp only [Act.put, sT, sZ, sS]
             refine tk0 15 ⟨some 97, _, _, _, _, _⟩ rfl hH0 ?_
             try simp only [Act.put, sT, sZ, sS]
             refine tk0 16 ⟨some 98, _, _, _, _, _⟩ rfl hH0 ?_
             try simp only [Act.put, sT, sZ, sS]
             refine tk0 17 ⟨some 99, _, _, _, _, _⟩ rfl hH0 ?_
             try simp only [Act.put, sT, sZ, sS]
             refine tk0 18 ⟨some 100, _, _, _, _, _⟩ rfl hH0 ?_
             try simp only [Act.put, sT, sZ, sS]
             refine tk0 19 ⟨some 101, _, _, _, _, _⟩ rfl hH0 ?_
             try simp only [Act.put, sT, sZ, sS]
             refine tk1 20 ⟨some 102, _, _, _, _, _⟩ ?_ rfl hH0 ?_ ?_
             rotate_left
             ·(intro w hSw; (try dsimp only at hSw); go_simp; first | done | with_reducible rfl)
             try simp only [Act.put, sT, sZ, sS]
             refine tk1 21 ⟨some 103, _, _, _, _, _⟩ ?_ rfl hH0 ?_ ?_
             rotate_left
             ·(intro w hSw; (try dsimp only at hSw); go_simp; first | done | with_reducible rfl)
             try simp only [Act.put, sT, sZ, sS]
             refine tk0 22 ⟨some 104, _, _, _, _, _⟩ rfl hH0 ?_
             try simp only [Act.put, sT, sZ, sS]
             refine tk0 23 ⟨some 105, _, _, _, _, _⟩ rfl hH0 ?_
             try simp only [Act.put, sT, sZ, sS]
             refine tk0 24 ⟨some 106, _, _, _, _, _⟩ rfl hH0 ?_
             try simp only [Act.put, sT, sZ, sS]
             refine tk0 25 ⟨some 107, _, _, _, _, _⟩ rfl hH0 ?_
             try simp only [Act.put, sT, sZ, sS]
             refine tk0 26 ⟨some 108, _, _, _, _, _⟩ rfl hH0 ?_
             try simp only [Act.put, sT, sZ, sS]
             refine tk0 27 ⟨some 109, _, _, _, _, _⟩ rfl hH0 ?_
             try simp only [Act.put, sT, sZ, sS]
             refine tk0 28 ⟨some 110, _, _, _, _, _⟩ rfl hH0 ?_
             try simp only [Act.put, sT, sZ, sS]
             refine tk0 29 ⟨some 111, _, _, _, _, _⟩ rfl hH0 ?_
             try simp only [Act.put, sT, sZ, sS]
             refine tk0 30 ⟨some 112, _, _, _, _, _⟩ rfl hH0 ?_
             try simp only [Act.put, sT, sZ, sS]
             refine tk0 31 ⟨some 113, _, _, _, _, _⟩ rfl hH0 ?_
             try simp only [Act.put, sT, sZ, sS]
             refine tk0 32 ⟨some 114, _, _, _, _, _⟩ rfl hH0 ?_
             try simp only [Act.put, sT, sZ, sS]
             refine tk0 33 ⟨some 115, _, _, _, _, _⟩ rfl hH0 ?_
             try simp only [Act.put, sT, sZ, sS]
             refine tk0 34 ⟨some 116, _, _, _, _, _⟩ rfl hH0 ?_
             try simp only [Act.put, sT, sZ, sS]
             refine tk0 35 ⟨some 117, _, _, _, _, _⟩ rfl hH0 ?_
             try simp only [Act.put, sT, sZ, sS]
             refine tk0 36 ⟨some 118, _, _, _, _, _⟩ rfl hH0 ?_
             try simp only [Act.put, sT, sZ, sS]
             refine tk0 37 ⟨some 119, _, _, _, _, _⟩ rfl hH0 ?_
             try simp only [Act.put, sT, sZ, sS]
             refine tk0 38 ⟨some 120, _, _, _, _, _⟩ rfl hH0 ?_
             try simp only [Act.put, sT, sZ, sS]
             refine tk0 39 ⟨some 121, _, _, _, _, _⟩ rfl hH0 ?_
             try simp only [Act.put, sT, sZ, sS]
             refine tk1 40 ⟨some 122, _, _, _, _, _⟩ ?_ rfl hH0 ?_ ?_
             rotate_left
             ·(intro w hSw; (try dsimp only at hSw); go_simp; first | done | with_reducible rfl)
             try simp only [Act.put, sT, sZ, sS]
             refine tk1 41 ⟨some 123, _, _, _, _, _⟩ ?_ rfl hH0 ?_ ?_
             rotate_left
             ·(intro w hSw; (try dsimp only at hSw); go_simp; first | done | with_reducible rfl)
             try simp only [Act.put, sT, sZ, sS]
             refine tk0 42 ⟨some 124, _, _, _, _, _⟩ rfl hH0 ?_
             try simp only [Act.put, sT, sZ, sS]
             refine tk0 43 ⟨some 125, _, _, _, _, _⟩ rfl hH0 ?_
             try simp only [Act.put, sT, sZ, sS]
             refine tk0 44 ⟨some 126, _, _, _, _, _⟩ rfl hH0 ?_
             try simp only [Act.put, sT, sZ, sS]
             refine tk0 45 ⟨some 127, _, _, _, _, _⟩ rfl hH0 ?_
             try simp only [Act.put, sT, sZ, sS]
             refine tk0 46 ⟨some 128, _, _, _, _, _⟩ rfl hH0 ?_
             try simp only [Act.put, sT, sZ, sS]
             refine tk0 47 ⟨some 129, _, _, _, _, _⟩ rfl hH0 ?_
             try simp only [Act.put, sT, sZ, sS]
             refine tk0 48 ⟨some 130, _, _, _, _, _⟩ rfl hH0 ?_
             try simp only [Act.put, sT, sZ, sS]
             refine tk0 49 ⟨some 131, _, _, _, _, _⟩ rfl hH0 ?_
             try simp only [Act.put, sT, sZ, sS]
             refine tk0 50 ⟨some 132, _, _, _, _, _⟩ rfl hH0 ?_
             try simp only [Act.put, sT, sZ, sS]
             refine tk0 51 ⟨some 133, _, _, _, _, _⟩ rfl hH0 ?_
             try simp only [Act.put, sT, sZ, sS]
             refine tk0 52 ⟨some 134, _, _, _, _, _⟩ rfl hH0 ?_
             try simp only [Act.put, sT, sZ, sS]
             refine tk0 53 ⟨some 135, _, _, _, _, _⟩ rfl hH0 ?_
             try simp only [Act.put, sT, sZ, sS]
             refine tk0 54 ⟨some 136, _, _, _, _, _⟩ rfl hH0 ?_
             try simp only [Act.put, sT, sZ, sS]
             refine tk0 55 ⟨some 137, _, _, _, _, _⟩ rfl hH0 ?_
             try simp only [Act.put, sT, sZ, sS]
             refine tk1 56 ⟨some 138, _, _, _, _, _⟩ ?_ rfl hH0 ?_ ?_
             rotate_left
             ·(intro w hSw; (try dsimp only at hSw); go_simp; first | done | with_reducible rfl)
             try simp only [Act.put, sT, sZ, sS]
             refine wpAnyH_done (by as_aux_lemma => kernel_rfl) ?_ _
             go_wp2_with fail
             go_ret2
             exact ⟨HBC.out.trans (hH0.1.mono HBC.out.size), _, by rw [HQ.out]; rfl, by rw [HQ.out]; exact OwnU.nil _ _⟩
       exact AllReadyH.nil
      exact AllReadyH.nil
    ·have bs : (S1.toList == S2.toList) = false := by
      rw [beq_eq_false_iff_ne, ByteArray.toList_eq, ByteArray.toList_eq]
      exact fun h => h4 (strOfNums_inj (fun x hx => HA.out x (List.mem_of_mem_take hx)) (putA_b _ _) (by rw [← hS1, ← hS2]; exact ByteArray.ext (Array.toList_inj.mp h)))
     have HQ : Hid (q = ([], 50)) := Lib.hid (HTS.out.1 (by rw [HBF.out]; simp [h4]))
     clear h1 h2 h3 h4 hbg hn16 hS1 hS2
     as_aux_lemma =>
      refine wp_region_held_drew (S := fun w' => Below w1.heap.size w1 w') (by as_aux_lemma => kernel_rfl) ((Below.refl _ w1).drew) (fun hH0 => ?_)
      change wpAnyH _ _ _ _ _ 33 #[false, false, false, false, false, false, false, false, false, false, false, false, false, false, false, false, false, false, false, false, false, false, false, false, false, false, false, false, false, false, false, false, false] _ _
      refine tk1 0 ⟨some 12, _, _, _, _, _⟩ ?_ rfl hH0 ?_ ?_
      rotate_left
      ·(intro w hSw; (try dsimp only at hSw); go_simp; first | done | with_reducible rfl)
      try simp only [Act.put, sT, sZ, sS]
      refine tk1 1 ⟨some 13, _, _, _, _, _⟩ ?_ rfl hH0 ?_ ?_
      rotate_left
      ·(intro w hSw; (try dsimp only at hSw); go_simp; first | done | with_reducible rfl)
      try simp only [Act.put, sT, sZ, sS]
      refine tk1 2 ⟨some 14, _, _, _, _, _⟩ ?_ rfl hH0 ?_ ?_
      rotate_left
      ·(intro w hSw; (try dsimp only at hSw); go_simp; first | done | with_reducible rfl)
      try simp only [Act.put, sT, sZ, sS]
      refine tk1 3 ⟨some 15, _, _, _, _, _⟩ ?_ rfl hH0 ?_ ?_
      rotate_left
      ·(intro w hSw; (try dsimp only at hSw); go_simp; first | done | with_reducible rfl)
      try simp only [Act.put, sT, sZ, sS]
      refine tk1 4 ⟨some 16, _, _, _, _, _⟩ ?_ rfl hH0 ?_ ?_
      rotate_left
      ·(intro w hSw; (try dsimp only at hSw); go_simp; first | done | with_reducible rfl)
      try simp only [Act.put, sT, sZ, sS]
      refine tk1 5 ⟨some 17, _, _, _, _, _⟩ ?_ rfl hH0 ?_ ?_
      rotate_left
      ·(intro w hSw; (try dsimp only at hSw); go_simp; first | done | with_reducible rfl)
      try simp only [Act.put, sT, sZ, sS]
      refine tk1 6 ⟨some 18, _, _, _, _, _⟩ ?_ rfl hH0 ?_ ?_
      rotate_left
      ·(intro w hSw; (try dsimp only at hSw); go_simp; first | done | with_reducible rfl)
      try simp only [Act.put, sT, sZ, sS]
      refine tk1 7 ⟨some 19, _, _, _, _, _⟩ ?_ rfl hH0 ?_ ?_
      rotate_left
      ·(intro w hSw; (try dsimp only at hSw); go_simp; first | done | with_reducible rfl)
      try simp only [Act.put, sT, sZ, sS]
      refine tk1 8 ⟨some 20, _, _, _, _, _⟩ ?_ rfl hH0 ?_ ?_
      rotate_left
      ·(intro w hSw; (try dsimp only at hSw); go_simp; first | done | with_reducible rfl)
      try simp only [Act.put, sT, sZ, sS]
      refine tk1 9 ⟨some 21, _, _, _, _, _⟩ ?_ rfl hH0 ?_ ?_
      rotate_left
      ·(intro w hSw; (try dsimp only at hSw); go_simp; first | done | with_reducible rfl)
      try simp only [Act.put, sT, sZ, sS]
      refine tk1 10 ⟨some 22, _, _, _, _, _⟩ ?_ rfl hH0 ?_ ?_
      rotate_left
      ·(intro w hSw; (try dsimp only at hSw); go_simp; first | done | with_reducible rfl)
      try simp only [Act.put, sT, sZ, sS]
      refine tk1 11 ⟨some 23, _, _, _, _, _⟩ ?_ rfl hH0 ?_ ?_
      rotate_left
      ·(intro w hSw; (try dsimp only at hSw); go_simp; first | done | with_reducible rfl)
      try simp only [Act.put, sT, sZ, sS]
      refine tk1 12 ⟨some 24, _, _, _, _, _⟩ ?_ rfl hH0 ?_ ?_
      rotate_left
      ·(intro w hSw; (try dsimp only at hSw); go_simp; first | done | with_reducible rfl)
      try simp only [Act.put, sT, sZ, sS]
      refine tk1 13 ⟨some 25, _, _, _, _, _⟩ ?_ rfl hH0 ?_ ?_
      rotate_left
      ·(intro w hSw; (try dsimp only at hSw); go_simp; first | done | with_reducible rfl)
      try simp only [Act.put, sT, sZ, sS]
      refine tk1 14 ⟨some 26, _, _, _, _, _⟩ ?_ rfl hH0 ?_ ?_
      rotate_left
      ·(intro w hSw; (try dsimp only at hSw); go_simp; first | done | with_reducible rfl)
      try simp only [Act.put, sT, sZ, sS]
      refine tk1 15 ⟨some 27, _, _, _, _, _⟩ ?_ rfl hH0 ?_ ?_
      rotate_left
      ·(intro w hSw; (try dsimp only at hSw); go_simp; first | done | with_reducible rfl)
      try simp only [Act.put, sT, sZ, sS]
      refine tk1 16 ⟨some 28, _, _, _, _, _⟩ ?_ rfl hH0 ?_ ?_
      rotate_left
      ·(intro w hSw; (try dsimp only at hSw); go_simp; first | done | with_reducible rfl)
      try simp only [Act.put, sT, sZ, sS]
      refine tk1 17 ⟨some 29, _, _, _, _, _⟩ ?_ rfl hH0 ?_ ?_
      rotate_left
      ·(intro w hSw; (try dsimp only at hSw); go_simp; first | done | with_reducible rfl)
      try simp only [Act.put, sT, sZ, sS]
      refine tk1 18 ⟨some 30, _, _, _, _, _⟩ ?_ rfl hH0 ?_ ?_
      rotate_left
      ·(intro w hSw; (try dsimp only at hSw); go_simp; first | done | with_reducible rfl)
      try simp only [Act.put, sT, sZ, sS]
      refine tk1 19 ⟨some 31, _, _, _, _, _⟩ ?_ rfl hH0 ?_ ?_
      rotate_left
      ·(intro w hSw; (try dsimp only at hSw); have hcw := hcv w hSw; go_simp; first | done | with_reducible rfl)
      try simp only [Act.put, sT, sZ, sS]
      refine tk1 20 ⟨some 32, _, _, _, _, _⟩ ?_ rfl hH0 ?_ ?_
      rotate_left
      ·(intro w hSw; (try dsimp only at hSw); go_simp; first | done | with_reducible rfl)
      try simp only [Act.put, sT, sZ, sS]
      refine wpAnyH_ready (rs := [21]) (by as_aux_lemma => kernel_rfl) (by simp) ?_
      refine AllReadyH.cons (o := ⟨some 33, _, _, _, _, _⟩) rfl (fun K hK => ?_) ?_
      ·rw [if_pos (by as_aux_lemma => kernel_rfl)]
       go_simp
       refine (HHD.out _).mono ?_
       rintro e wx ⟨hbx, ro, Bo, rfl, hBo, how⟩
       have hcv2 := run_str_whole how.read
       rw [← HS2.out] at hcv2
       refine hK.out _ _ (hH0.trans (hbx.mono hH0.size)) (fun hH1 => ?_)
       clear hK K
       try simp only [sT, sZ, sS]
       refine wpAnyH_ready (rs := [22]) (by as_aux_lemma => kernel_rfl) (by simp) ?_
       refine AllReadyH.cons (o := ⟨some 34, _, _, _, _, _⟩) rfl (fun K hK => ?_) ?_
       ·rw [if_pos (by as_aux_lemma => kernel_rfl)]
        go_simp
        refine hK.out _ _ (hH1) (fun hH2 => ?_)
        clear hK K
        try simp only [sT, sZ, sS]
        refine tk1 23 ⟨some 35, _, _, _, _, _⟩ ?_ rfl hH2 ?_ ?_
        rotate_left
        ·(intro w hSw; (try dsimp only at hSw); go_simp; first | done | with_reducible rfl)
        try simp only [Act.put, sT, sZ, sS]
        refine tk1 24 ⟨some 36, _, _, _, _, _⟩ ?_ rfl hH2 ?_ ?_
        rotate_left
        ·(intro w hSw; (try dsimp only at hSw); go_simp; first | done | with_reducible rfl)
        try simp only [Act.put, sT, sZ, sS]
        refine tk1 25 ⟨some 37, _, _, _, _, _⟩ ?_ rfl hH2 ?_ ?_
        rotate_left
        ·(intro w hSw; (try dsimp only at hSw); go_simp; first | done | with_reducible rfl)
        try simp only [Act.put, sT, sZ, sS]
        refine tk0 26 ⟨some 38, _, _, _, _, _⟩ rfl hH2 ?_
        try simp only [Act.put, sT, sZ, sS]
        refine tk0 27 ⟨some 39, _, _, _, _, _⟩ rfl hH2 ?_
        try simp only [Act.put, sT, sZ, sS]
        refine tk0 28 ⟨some 40, _, _, _, _, _⟩ rfl hH2 ?_
        try simp only [Act.put, sT, sZ, sS]
        refine tk0 29 ⟨some 41, _, _, _, _, _⟩ rfl hH2 ?_
        try simp only [Act.put, sT, sZ, sS]
        refine tk0 30 ⟨some 42, _, _, _, _, _⟩ rfl hH2 ?_
        try simp only [Act.put, sT, sZ, sS]
        refine tk0 31 ⟨some 43, _, _, _, _, _⟩ rfl hH2 ?_
        try simp only [Act.put, sT, sZ, sS]
        refine tk1 32 ⟨some 44, _, _, _, _, _⟩ ?_ rfl hH2 ?_ ?_
        rotate_left
        ·(intro w hSw; (try dsimp only at hSw); go_simp; first | done | with_reducible rfl)
        try simp only [Act.put, sT, sZ, sS]
        refine wpAnyH_done (by as_aux_lemma => kernel_rfl) ?_ _
        go_wp2_with fail
        go_ret2
        exact ⟨HB1.out.trans (hH2.mono HB1.out.size), _, by rw [HQ.out]; rfl, by rw [HQ.out]; exact OwnU.nil _ _⟩
       exact AllReadyH.nil
      exact AllReadyH.nil
end Go.Proofs.Ytlpnikolnohcaaa
