/-
  A reader of one's own, of which too much is asked; bytes compared; do two tables lie apart?
-/
import Derived.Test.YtlpnikolnohcaaaHeadP
import Derived.Test.YtlpnikolnohcaaaStrB
import Derived.Test.YtlpnikolnohcaaaTabS
import Derived.Laws.NewBlocks
namespace Go.Proofs.Ytlpnikolnohcaaa
open Go Go.RowKit

/-- a reader that was made since, with what it shares -/
def RdO (B : Nat) (w : World) (r : Value) (l : List Int) : Prop :=
  ∃ gr gs A c, r = .pointer (some ⟨gr, 0, none⟩) ∧ gr < w.heap.size ∧ gs < w.heap.size ∧ w.cell? ⟨gr, 0, none⟩ = some (.pointer (some ⟨gs, 0, none⟩)) ∧ w.cell? ⟨gr, 1, none⟩ = some (.slice A l.length c) ∧ w.cell? ⟨gs, 0, none⟩ = some (.bool false) ∧ NumZ .u8 w (.slice A l.length c) l ∧ (A = none → c = 0) ∧ B ≤ gs ∧ w.frozen? ⟨gs, 0, none⟩ = false

theorem RdO.z {B : Nat} {w : World} {r : Value} {l : List Int} (h : RdO B w r l) : RdZ w r l := by
  obtain ⟨gr, gs, A, c, h1, h2, h3, h4, h5, h6, h7, h8, _, _⟩ := h
  exact ⟨gr, gs, A, c, h1, h2, h3, h4, h5, h6, h7, h8⟩

set_option maxRecDepth 20000 in
theorem open_own (w : World) (v : Value) (l : List Int) (hv : NumZ .u8 w v l) (hnn : ∀ n c, v = .slice none n c → n = 0 ∧ c = 0) (hl : l.length ≤ 1000000000) :
    Calls Try.prog 16 #[v] w fun e w' => Below w.heap.size w w' ∧ ∃ r, e = .returned r ∧ RdO w.heap.size w' r l := by
  have HC := Lib.hid (clone_any (w.alloc (.cells #[.bool false] 74)) v l (hv.alloc _) hnn hl)
  have HB0 := Lib.hid ((Below.refl _ w).alloc (Nat.le_refl _) (.cells #[.bool false] 74))
  clear hv hnn hl
  go_enter Try.func16, Try.ntmps16
  go_wp2_with fail
  refine (HC.out).mono ?_
  rintro e w1 ⟨hb, v, rfl, how⟩
  obtain ⟨⟨A, c, hvv⟩, _⟩ := ownB_cases how
  have hnn := how.nn
  have hz := how.read
  rw [hvv] at hz hnn ⊢
  obtain ⟨N, hN⟩ : ∃ N, N = l.length := ⟨_, rfl⟩
  rw [← hN] at hz hnn ⊢
  have hcell : w1.cell? ⟨w.heap.size, 0, none⟩ = some (.bool false) := cellsAt_below (by
    rw [cell_of_row _ w.heap.size 0 _ _ _ (heap_alloc_new w _)]; rfl) hb
  have hfz : w1.frozen? ⟨w.heap.size, 0, none⟩ = false := by
    rw [hb.frozen (by exact heap_more _ _)]; exact World.frozen?_alloc_at _ _ _ _ rfl
  have hlt : w.heap.size < w1.heap.size := by have := hb.size; rw [heap_plus] at this; omega
  have hb1 : Below w.heap.size w w1 := HB0.out.trans (hb.mono (Nat.le_of_lt (heap_more _ _)))
  obtain ⟨gs, hgs⟩ : ∃ gs, gs = w.heap.size := ⟨_, rfl⟩
  have HF : Hid (∀ (w2 : World), w2 = w1.alloc (.cells #[.pointer (some ⟨w.heap.size, 0, none⟩), .slice A N c] 77) → Below w.heap.size w w2 ∧ RdO w.heap.size w2 (.pointer (some ⟨w1.heap.size, 0, none⟩)) l) := Lib.hid (by
    rintro w2 rfl
    refine ⟨hb1.alloc hb1.size _, w1.heap.size, w.heap.size, A, c, rfl, heap_more _ _, Nat.lt_trans hlt (heap_more _ _), ?_, ?_, cells_alloc _ hcell, ?_, fun h => ?_, Nat.le_refl _, by rw [World.frozen?_alloc_past _ _ _ hlt]; exact hfz⟩
    · rw [cell_of_row _ w1.heap.size 0 _ _ _ (heap_alloc_new w1 _)]; rfl
    · rw [cell_of_row _ w1.heap.size 1 _ _ _ (heap_alloc_new w1 _), ← hN]; rfl
    · rw [← hN]; exact hz.alloc _
    · subst h; exact (hnn _ _ rfl).2)
  clear how hnn hz hvv hN hcell hlt hb1 hgs hb hfz
  go_wp2_with fail
  go_ret
  have := HF.out _ rfl
  exact ⟨this.1, _, rfl, this.2⟩

set_option maxRecDepth 20000 in
theorem rd_together (w : World) (gr gs : Nat) (h3 : w.cell? ⟨gr, 0, none⟩ = some (.pointer (some ⟨gs, 0, none⟩))) : Calls Try.prog 74 #[.pointer (some ⟨gr, 0, none⟩)] w fun e w' => e = .returned (.pointer (some ⟨gs, 0, none⟩)) ∧ w = w' := by
  go_enter Try.func74, Try.ntmps74
  go_wp2_with fail
  go_ret
  exact ⟨rfl, rfl⟩

set_option maxHeartbeats 2000000 in
set_option maxRecDepth 20000 in
theorem has_out (B : Nat) (w : World) (r : Value) (l : List Int) (hr : RdO B w r l) (_hl : l.length ≤ 1000000000) (p : Nat) (h : l.length < p + 2) :
    Calls Try.prog 69 #[r, .int .i64 (p : Int), .int .i64 1, .int .i64 2] w fun e w' => e = .returned (.bool false) ∧ ∀ w0, Below B w0 w → Below B w0 w' := by
  obtain ⟨gr, gs, A, c, rfl, _, hgl, h3, h4, h5, _, _, hB, hfz⟩ := hr
  have HT := Lib.hid (rd_together w gr gs h3)
  obtain ⟨N, hN⟩ : ∃ N, N = l.length := ⟨_, rfl⟩
  rw [← hN] at h4 _hl h
  have HB := Lib.hid hB
  have b1 : ((0 : Int) ≤ (p : Int)) = True := eq_true (Int.natCast_nonneg _)
  have HGL := Lib.hid hgl
  by_cases hpN : p ≤ N
  · have b3 : ((p : Int) ≤ (N : Int)) = True := eq_true (by omega)
    obtain ⟨d, hd⟩ : ∃ d, d = N - p := ⟨_, rfl⟩
    have q1 : IntKind.i64.wrap ((N : Int) - (p : Int)) = (d : Int) := by rw [IntKind.wrap_i64]; omega
    have q2 : wrap64 ((d : Int) / 2) = 0 := by unfold wrap64; omega
    clear hN hd h _hl hB hpN hgl
    go_enter Try.func69, Try.ntmps69
    go_wp2_with fail
    refine (HT.out).mono ?_
    rintro e w1 ⟨rfl, rfl⟩
    go_wp2_with fail
    go_ret
    exact ⟨rfl, fun w0 h => h.setCell (p := ⟨gs, 0, none⟩) HB.out _⟩
  · have b3 : ((p : Int) ≤ (N : Int)) = False := eq_false (by omega)
    clear hN h _hl hB hpN hgl
    go_enter Try.func69, Try.ntmps69
    go_wp2_with fail
    refine (HT.out).mono ?_
    rintro e w1 ⟨rfl, rfl⟩
    go_wp2_with fail
    go_ret
    exact ⟨rfl, fun w0 h => h.setCell (p := ⟨gs, 0, none⟩) HB.out _⟩

set_option maxRecDepth 20000 in
theorem word_out (B : Nat) (w : World) (r : Value) (l : List Int) (hr : RdO B w r l) (hl : l.length ≤ 1000000000) (p : Nat) (h : l.length < p + 2) :
    Calls Try.prog 47 #[r, .int .i64 (p : Int)] w fun e w' => e = .returned (.int .u16 0) ∧ ∀ w0, Below B w0 w → Below B w0 w' := by
  have HH := Lib.hid (has_out B w r l hr hl p h)
  clear hr hl h
  go_enter Try.func47, Try.ntmps47
  go_wp2_with fail
  refine (HH.out).mono ?_
  rintro e w1 ⟨rfl, hb⟩
  go_wp2_with fail
  go_ret
  exact ⟨rfl, hb⟩

/-- W at a place, whatever there is -/
theorem rdW_own (B : Nat) (w : World) (r : Value) (l : List Int) (hr : RdO B w r l) (hA : AllB l) (hl : l.length ≤ 1000000000) (p : Nat) :
    Calls Try.prog 47 #[r, .int .i64 (p : Int)] w fun e w' => e = .returned (.int .u16 (numAt l (p : Int) 2)) ∧ (∀ w0, Below B w0 w → Below B w0 w') ∧ (p + 1 < l.length → Below w.heap.size w w') := by
  by_cases h : p + 1 < l.length
  · refine (rdW w r l hr.z hA hl p h).mono ?_
    rintro e w' ⟨rfl, hb⟩
    obtain ⟨gr, gs, _, _, _, _, hg, _, _, _, _, _, hB, _⟩ := hr
    exact ⟨rfl, fun w0 h0 => h0.trans (hb.mono (by omega)), fun _ => hb⟩
  · refine (word_out B w r l hr hl p (by omega)).mono ?_
    rintro e w' ⟨rfl, hb⟩
    refine ⟨?_, hb, fun h' => absurd h' h⟩
    unfold numAt
    rw [if_neg]
    unfold allB
    rw [decide_eq_true_eq]
    omega

set_option maxRecDepth 20000 in
theorem equal_any (w : World) (a b : Value) (l m : List Int) (ha : NumZ .u8 w a l) (hb : NumZ .u8 w b m) (hA : AllB l) (hM : AllB m) :
    Calls Try.prog 50 #[a, b] w fun e w' => e = .returned (.bool (decide (l = m))) ∧ w = w' := by
  have h1 := run_str_whole ha
  have h2 := run_str_whole hb
  have hR : (decide (l = m)) = ((strOfNums l).toList == (strOfNums m).toList) := by
    rw [Bool.eq_iff_iff, decide_eq_true_eq, beq_iff_eq, ByteArray.toList_eq, ByteArray.toList_eq]
    constructor
    · rintro rfl; rfl
    · intro h; exact strOfNums_inj hA hM (ByteArray.ext (Array.toList_inj.1 h))
  rw [hR]
  generalize strOfNums l = s at h1 ⊢
  generalize strOfNums m = t at h2 ⊢
  clear ha hb hA hM hR
  go_enter Try.func50, Try.ntmps50
  go_wp2_with fail
  go_ret
  exact ⟨rfl, rfl⟩

/-- a table's value -/
def tabV (t : TabL) : Value := .agg ((t.1.map fun x => Value.int .u8 x) ++ [Value.int .i64 t.2.1, Value.int .i64 t.2.2]).toArray

set_option maxHeartbeats 4000000 in
set_option maxRecDepth 20000 in
theorem apart_any (w : World) (a0 a1 a2 a3 b0 b1 b2 b3 p m q n : Int) (hm : 0 ≤ m ∧ m ≤ 1000000000000) (hn : 0 ≤ n ∧ n ≤ 1000000000000) (hp : 0 ≤ p ∧ p ≤ 1000000000000) (hq : 0 ≤ q ∧ q ≤ 1000000000000) :
    Calls Try.prog 54 #[.agg #[.int .u8 a0, .int .u8 a1, .int .u8 a2, .int .u8 a3, .int .i64 p, .int .i64 m], .agg #[.int .u8 b0, .int .u8 b1, .int .u8 b2, .int .u8 b3, .int .i64 q, .int .i64 n]] w fun e w' => e = .returned (.bool (!overTab ([a0, a1, a2, a3], p, m) ([b0, b1, b2, b3], q, n))) ∧ Below w.heap.size w w' := by
  obtain ⟨R, hR⟩ : ∃ R, R = !overTab ([a0, a1, a2, a3], p, m) ([b0, b1, b2, b3], q, n) := ⟨_, rfl⟩
  rw [← hR]
  unfold overTab at hR
  simp only [] at hR
  have q1 : IntKind.i64.wrap (p + m) = p + m := by rw [IntKind.wrap_i64]; omega
  have q2 : IntKind.i64.wrap (q + n) = q + n := by rw [IntKind.wrap_i64]; omega
  obtain ⟨w1, hw1⟩ : ∃ w1, w.alloc (.cells #[.int .u8 a0, .int .u8 a1, .int .u8 a2, .int .u8 a3, .int .i64 p, .int .i64 m] 41) = w1 := ⟨_, rfl⟩
  obtain ⟨w2, hw2⟩ : ∃ w2, w1.alloc (.cells #[.int .u8 b0, .int .u8 b1, .int .u8 b2, .int .u8 b3, .int .i64 q, .int .i64 n] 41) = w2 := ⟨_, rfl⟩
  have HB2 : Hid (Below w.heap.size w w2) := Lib.hid (by rw [← hw2, ← hw1]; exact below_alloc _ (below_alloc _ (Below.refl _ w)))
  have hs1 : w1.heap.size = w.heap.size + 1 := by rw [← hw1, heap_plus]
  have c4 : w2.cell? ⟨w.heap.size, 4, none⟩ = some (.int .i64 p) := by
    rw [← hw2]; refine cells_alloc _ ?_
    rw [← hw1, cell_of_row _ w.heap.size 4 _ _ _ (heap_alloc_new w _)]; rfl
  have c5 : w2.cell? ⟨w.heap.size, 5, none⟩ = some (.int .i64 m) := by
    rw [← hw2]; refine cells_alloc _ ?_
    rw [← hw1, cell_of_row _ w.heap.size 5 _ _ _ (heap_alloc_new w _)]; rfl
  have d4 : w2.cell? ⟨w.heap.size + 1, 4, none⟩ = some (.int .i64 q) := by
    rw [← hs1, ← hw2, cell_of_row _ w1.heap.size 4 _ _ _ (heap_alloc_new w1 _)]; rfl
  have d5 : w2.cell? ⟨w.heap.size + 1, 5, none⟩ = some (.int .i64 n) := by
    rw [← hs1, ← hw2, cell_of_row _ w1.heap.size 5 _ _ _ (heap_alloc_new w1 _)]; rfl
  by_cases h1 : m = 0
  · have bm : (m == 0) = true := by simp [h1]
    have HV : Hid (R = true) := Lib.hid (by rw [hR]; simp [h1])
    clear hR h1 hm hn hp hq
    go_enter Try.func54, Try.ntmps54
    go_wp2_with fail
    go_ret
    exact ⟨by rw [HV.out]; rfl, HB2.out⟩
  · have bm : (m == 0) = false := by simp [h1]
    by_cases h2 : n = 0
    · have bn : (n == 0) = true := by simp [h2]
      have HV : Hid (R = true) := Lib.hid (by rw [hR]; simp [h2])
      clear hR h1 h2 hm hn hp hq
      go_enter Try.func54, Try.ntmps54
      go_wp2_with fail
      go_ret
      exact ⟨by rw [HV.out]; rfl, HB2.out⟩
    · have bn : (n == 0) = false := by simp [h2]
      by_cases h3 : p + m ≤ q
      · have bp : (p + m ≤ q) = True := eq_true h3
        have HV : Hid (R = true) := Lib.hid (by rw [hR]; simp [show ¬ q < p + m by omega])
        clear hR h1 h2 h3 hm hn hp hq
        go_enter Try.func54, Try.ntmps54
        go_wp2_with fail
        go_ret
        exact ⟨by rw [HV.out]; rfl, HB2.out⟩
      · have bp : (p + m ≤ q) = False := eq_false h3
        by_cases h4 : q + n ≤ p
        · have bq : (q + n ≤ p) = True := eq_true h4
          have HV : Hid (R = true) := Lib.hid (by rw [hR]; simp [show ¬ p < q + n by omega])
          clear hR h1 h2 h3 h4 hm hn hp hq
          go_enter Try.func54, Try.ntmps54
          go_wp2_with fail
          go_ret
          exact ⟨by rw [HV.out]; rfl, HB2.out⟩
        · have bq : (q + n ≤ p) = False := eq_false h4
          have HV : Hid (R = false) := Lib.hid (by rw [hR]; simp [show 0 < m by omega, show 0 < n by omega, show p < q + n by omega, show q < p + m by omega])
          clear hR h1 h2 h3 h4 hm hn hp hq
          go_enter Try.func54, Try.ntmps54
          go_wp2_with fail
          go_ret
          exact ⟨by rw [HV.out]; rfl, HB2.out⟩
end Go.Proofs.Ytlpnikolnohcaaa
