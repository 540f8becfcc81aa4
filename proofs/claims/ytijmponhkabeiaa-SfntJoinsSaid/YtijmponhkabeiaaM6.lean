/-
  Several texts in one: TabS, OutP, RowT, SumP.
-/
import Derived.Test.YtijmponhkabeiaaM1
import Derived.Test.YtijmponhkabeiaaM2
import Derived.Test.YtijmponhkabeiaaM0
import Derived.Test.YtijmponhkabeiaaM5
import Derived.Laws.NewBlocks
namespace Go.Proofs.Ytijmponhkabeiaa
open Go Go.RowKit

/-- a table: its name, its place, its length -/
abbrev TabL := List Int × Int × Int

/-- the table that the record i tells -/
def tabAt (l : List Int) (i : Nat) : TabL :=
  ([l.getD (12 + 16 * i) 0, l.getD (12 + 16 * i + 1) 0, l.getD (12 + 16 * i + 2) 0, l.getD (12 + 16 * i + 3) 0], numAt l ((12 + 16 * i + 8 : Nat) : Int) 4, numAt l ((12 + 16 * i + 12 : Nat) : Int) 4)

/-- is the record i wrong, the tables ts ahead of it? -/
def badTab (l : List Int) (n i : Nat) (ts : List TabL) : Bool :=
  decide ((tabAt l i).2.1 % 4 ≠ 0) || (decide ((tabAt l i).2.1 < 12 + 16 * (n : Int)) || (!allB l.length (tabAt l i).2.1 (tabAt l i).2.2 || (decide (sumTag (tabAt l i).1 ((l.drop (tabAt l i).2.1.toNat).take (tabAt l i).2.2.toNat) ≠ numAt l ((12 + 16 * i + 4 : Nat) : Int) 4) || (decide (0 < i) && !lessL (ts.getD (i - 1) ([], 0, 0)).1 (tabAt l i).1))))

/-- do two tables lie over each other? -/
def overTab (t u : TabL) : Bool := decide (0 < t.2.2) && (decide (0 < u.2.2) && (decide (t.2.1 < u.2.1 + u.2.2) && decide (u.2.1 < t.2.1 + t.2.2)))

/-- the first i tables -/
def tabsL (l : List Int) (n : Nat) : Nat → Option (List TabL)
  | 0 => some []
  | i + 1 => (tabsL l n i).bind fun ts => if badTab l n i ts || ts.any (overTab (tabAt l i)) then none else some (ts ++ [tabAt l i])

/-- is a font's beginning wrong? -/
def badFont (l : List Int) : Bool :=
  decide (16777216 < l.length) || (decide (l.length < 12) || (decide (numAt l 4 2 < 1) || (decide (64 < numAt l 4 2) || (decide (l.take 12 ≠ headL (numAt l 4 2).toNat) || decide ((l.length : Int) < 12 + 16 * numAt l 4 2)))))

/-- a font's tables, the error's number -/
def tablesS (l : List Int) : List TabL × Int :=
  if badFont l then ([], 50) else
    match tabsL l (numAt l 4 2).toNat (numAt l 4 2).toNat with
    | none => ([], 50)
    | some ts => (ts, 0)

theorem tabsL_len (l : List Int) (n : Nat) : ∀ i ts, tabsL l n i = some ts → ts = (List.range i).map (tabAt l)
  | 0, ts, h => by simp only [tabsL, Option.some.injEq] at h; rw [← h]; rfl
  | i + 1, ts, h => by
    unfold tabsL at h
    cases hp : tabsL l n i with
    | none => rw [hp] at h; cases h
    | some t0 =>
      rw [hp] at h
      simp only [Option.bind_some] at h
      split at h
      · cases h
      · rw [← Option.some.inj h, tabsL_len l n i t0 hp, List.range_succ, List.map_append]; rfl

/-- a wrong record on the way, and nothing is told -/
theorem tabsL_none (l : List Int) (n i : Nat) : ∀ k, tabsL l n i = none → tabsL l n (i + k) = none
  | 0, h => h
  | k + 1, h => by
    show tabsL l n (i + k + 1) = none
    unfold tabsL
    rw [tabsL_none l n i k h]; rfl

theorem tabsL_step (l : List Int) (n i : Nat) (ts : List TabL) (h : tabsL l n i = some ts) (hb : badTab l n i ts = false) (ho : ts.any (overTab (tabAt l i)) = false) : tabsL l n (i + 1) = some (ts ++ [tabAt l i]) := by
  unfold tabsL
  rw [h, Option.bind_some, hb, ho]; rfl

theorem tabsL_bad (l : List Int) (n i : Nat) (hi : i < n) (ts : List TabL) (h : tabsL l n i = some ts) (hb : badTab l n i ts = true ∨ ts.any (overTab (tabAt l i)) = true) : tabsL l n n = none := by
  have h1 : tabsL l n (i + 1) = none := by
    unfold tabsL
    rw [h, Option.bind_some]
    rcases hb with hb | hb <;> rw [hb] <;> simp
  have := tabsL_none l n (i + 1) (n - (i + 1)) h1
  rwa [show i + 1 + (n - (i + 1)) = n by omega] at this

end Go.Proofs.Ytijmponhkabeiaa

namespace Go.Proofs.Ytijmponhkabeiaa
open Go Go.RowKit

/-- a reader that was made since, with what it shares -/
def RdO (B : Nat) (w : World) (r : Value) (l : List Int) : Prop :=
  ∃ gr gs A c, r = .pointer (some ⟨gr, 0, none⟩) ∧ gr < w.heap.size ∧ gs < w.heap.size ∧ w.cell? ⟨gr, 0, none⟩ = some (.pointer (some ⟨gs, 0, none⟩)) ∧ w.cell? ⟨gr, 1, none⟩ = some (.slice A l.length c) ∧ w.cell? ⟨gs, 0, none⟩ = some (.bool false) ∧ NumZ .u8 w (.slice A l.length c) l ∧ (A = none → c = 0) ∧ B ≤ gs ∧ w.frozen? ⟨gs, 0, none⟩ = false

theorem RdO.z {B : Nat} {w : World} {r : Value} {l : List Int} (h : RdO B w r l) : RdZ w r l := by
  obtain ⟨gr, gs, A, c, h1, h2, h3, h4, h5, h6, h7, h8, _, _⟩ := h
  exact ⟨gr, gs, A, c, h1, h2, h3, h4, h5, h6, h7, h8⟩

set_option maxRecDepth 20000 in
theorem open_own (w : World) (v : Value) (l : List Int) (hv : NumZ .u8 w v l) (hnn : ∀ n c, v = .slice none n c → n = 0 ∧ c = 0) (hl : l.length ≤ 1000000000) :
    Calls Try.prog 16 #[v] w fun e w' => Below w.heap.size w w' ∧ ∃ r, e = .returned r ∧ RdO w.heap.size w' r l := by
  have HC := Lib.hid (clone_any (w.alloc (.cells #[.bool false] 74)) v l (hv.alloc _) hnn hl)
  have HB0 := Lib.hid ((Below.refl _ w).alloc (Nat.le_refl _) (.cells #[.bool false] 74))
  clear hv hnn hl
  go_enter Try.func16, Try.ntmps16
  go_wp2_with fail
  refine (HC.out).mono ?_
  rintro e w1 ⟨hb, v, rfl, how⟩
  obtain ⟨⟨A, c, hvv⟩, _⟩ := ownB_cases how
  have hnn := how.nn
  have hz := how.read
  rw [hvv] at hz hnn ⊢
  obtain ⟨N, hN⟩ : ∃ N, N = l.length := ⟨_, rfl⟩
  rw [← hN] at hz hnn ⊢
  have hcell : w1.cell? ⟨w.heap.size, 0, none⟩ = some (.bool false) := cellsAt_below (by
    rw [cell_of_row _ w.heap.size 0 _ _ _ (heap_alloc_new w _)]; rfl) hb
  have hfz : w1.frozen? ⟨w.heap.size, 0, none⟩ = false := by
    rw [hb.frozen (by exact heap_more _ _)]; exact World.frozen?_alloc_at _ _ _ _ rfl
  have hlt : w.heap.size < w1.heap.size := by have := hb.size; rw [heap_plus] at this; omega
  have hb1 : Below w.heap.size w w1 := HB0.out.trans (hb.mono (Nat.le_of_lt (heap_more _ _)))
  obtain ⟨gs, hgs⟩ : ∃ gs, gs = w.heap.size := ⟨_, rfl⟩
  have HF : Hid (∀ (w2 : World), w2 = w1.alloc (.cells #[.pointer (some ⟨w.heap.size, 0, none⟩), .slice A N c] 77) → Below w.heap.size w w2 ∧ RdO w.heap.size w2 (.pointer (some ⟨w1.heap.size, 0, none⟩)) l) := Lib.hid (by
    rintro w2 rfl
    refine ⟨hb1.alloc hb1.size _, w1.heap.size, w.heap.size, A, c, rfl, heap_more _ _, Nat.lt_trans hlt (heap_more _ _), ?_, ?_, cells_alloc _ hcell, ?_, fun h => ?_, Nat.le_refl _, by rw [World.frozen?_alloc_past _ _ _ hlt]; exact hfz⟩
    · rw [cell_of_row _ w1.heap.size 0 _ _ _ (heap_alloc_new w1 _)]; rfl
    · rw [cell_of_row _ w1.heap.size 1 _ _ _ (heap_alloc_new w1 _), ← hN]; rfl
    · rw [← hN]; exact hz.alloc _
    · subst h; exact (hnn _ _ rfl).2)
  clear how hnn hz hvv hN hcell hlt hb1 hgs hb hfz
  go_wp2_with fail
  go_ret
  have := HF.out _ rfl
  exact ⟨this.1, _, rfl, this.2⟩

set_option maxRecDepth 20000 in
theorem rd_together (w : World) (gr gs : Nat) (h3 : w.cell? ⟨gr, 0, none⟩ = some (.pointer (some ⟨gs, 0, none⟩))) : Calls Try.prog 74 #[.pointer (some ⟨gr, 0, none⟩)] w fun e w' => e = .returned (.pointer (some ⟨gs, 0, none⟩)) ∧ w = w' := by
  go_enter Try.func74, Try.ntmps74
  go_wp2_with fail
  go_ret
  exact ⟨rfl, rfl⟩

set_option maxHeartbeats 2000000 in
set_option maxRecDepth 20000 in
theorem has_out (B : Nat) (w : World) (r : Value) (l : List Int) (hr : RdO B w r l) (_hl : l.length ≤ 1000000000) (p : Nat) (h : l.length < p + 2) :
    Calls Try.prog 69 #[r, .int .i64 (p : Int), .int .i64 1, .int .i64 2] w fun e w' => e = .returned (.bool false) ∧ ∀ w0, Below B w0 w → Below B w0 w' := by
  obtain ⟨gr, gs, A, c, rfl, _, hgl, h3, h4, h5, _, _, hB, hfz⟩ := hr
  have HT := Lib.hid (rd_together w gr gs h3)
  obtain ⟨N, hN⟩ : ∃ N, N = l.length := ⟨_, rfl⟩
  rw [← hN] at h4 _hl h
  have HB := Lib.hid hB
  have b1 : ((0 : Int) ≤ (p : Int)) = True := eq_true (Int.natCast_nonneg _)
  have HGL := Lib.hid hgl
  by_cases hpN : p ≤ N
  · have b3 : ((p : Int) ≤ (N : Int)) = True := eq_true (by omega)
    obtain ⟨d, hd⟩ : ∃ d, d = N - p := ⟨_, rfl⟩
    have q1 : IntKind.i64.wrap ((N : Int) - (p : Int)) = (d : Int) := by rw [IntKind.wrap_i64]; omega
    have q2 : wrap64 ((d : Int) / 2) = 0 := by unfold wrap64; omega
    clear hN hd h _hl hB hpN hgl
    go_enter Try.func69, Try.ntmps69
    go_wp2_with fail
    refine (HT.out).mono ?_
    rintro e w1 ⟨rfl, rfl⟩
    go_wp2_with fail
    go_ret
    exact ⟨rfl, fun w0 h => h.setCell (p := ⟨gs, 0, none⟩) HB.out _⟩
  · have b3 : ((p : Int) ≤ (N : Int)) = False := eq_false (by omega)
    clear hN h _hl hB hpN hgl
    go_enter Try.func69, Try.ntmps69
    go_wp2_with fail
    refine (HT.out).mono ?_
    rintro e w1 ⟨rfl, rfl⟩
    go_wp2_with fail
    go_ret
    exact ⟨rfl, fun w0 h => h.setCell (p := ⟨gs, 0, none⟩) HB.out _⟩

set_option maxRecDepth 20000 in
theorem word_out (B : Nat) (w : World) (r : Value) (l : List Int) (hr : RdO B w r l) (hl : l.length ≤ 1000000000) (p : Nat) (h : l.length < p + 2) :
    Calls Try.prog 47 #[r, .int .i64 (p : Int)] w fun e w' => e = .returned (.int .u16 0) ∧ ∀ w0, Below B w0 w → Below B w0 w' := by
  have HH := Lib.hid (has_out B w r l hr hl p h)
  clear hr hl h
  go_enter Try.func47, Try.ntmps47
  go_wp2_with fail
  refine (HH.out).mono ?_
  rintro e w1 ⟨rfl, hb⟩
  go_wp2_with fail
  go_ret
  exact ⟨rfl, hb⟩

/-- W at a place, whatever there is -/
theorem rdW_own (B : Nat) (w : World) (r : Value) (l : List Int) (hr : RdO B w r l) (hA : AllB l) (hl : l.length ≤ 1000000000) (p : Nat) :
    Calls Try.prog 47 #[r, .int .i64 (p : Int)] w fun e w' => e = .returned (.int .u16 (numAt l (p : Int) 2)) ∧ (∀ w0, Below B w0 w → Below B w0 w') ∧ (p + 1 < l.length → Below w.heap.size w w') := by
  by_cases h : p + 1 < l.length
  · refine (rdW w r l hr.z hA hl p h).mono ?_
    rintro e w' ⟨rfl, hb⟩
    obtain ⟨gr, gs, _, _, _, _, hg, _, _, _, _, _, hB, _⟩ := hr
    exact ⟨rfl, fun w0 h0 => h0.trans (hb.mono (by omega)), fun _ => hb⟩
  · refine (word_out B w r l hr hl p (by omega)).mono ?_
    rintro e w' ⟨rfl, hb⟩
    refine ⟨?_, hb, fun h' => absurd h' h⟩
    unfold numAt
    rw [if_neg]
    unfold allB
    rw [decide_eq_true_eq]
    omega

set_option maxRecDepth 20000 in
theorem equal_any (w : World) (a b : Value) (l m : List Int) (ha : NumZ .u8 w a l) (hb : NumZ .u8 w b m) (hA : AllB l) (hM : AllB m) :
    Calls Try.prog 50 #[a, b] w fun e w' => e = .returned (.bool (decide (l = m))) ∧ w = w' := by
  have h1 := run_str_whole ha
  have h2 := run_str_whole hb
  have hR : (decide (l = m)) = ((strOfNums l).toList == (strOfNums m).toList) := by
    rw [Bool.eq_iff_iff, decide_eq_true_eq, beq_iff_eq, ByteArray.toList_eq, ByteArray.toList_eq]
    constructor
    · rintro rfl; rfl
    · intro h; exact strOfNums_inj hA hM (ByteArray.ext (Array.toList_inj.1 h))
  rw [hR]
  generalize strOfNums l = s at h1 ⊢
  generalize strOfNums m = t at h2 ⊢
  clear ha hb hA hM hR
  go_enter Try.func50, Try.ntmps50
  go_wp2_with fail
  go_ret
  exact ⟨rfl, rfl⟩

/-- a table's value -/
def tabV (t : TabL) : Value := .agg ((t.1.map fun x => Value.int .u8 x) ++ [Value.int .i64 t.2.1, Value.int .i64 t.2.2]).toArray

set_option maxHeartbeats 4000000 in
set_option maxRecDepth 20000 in
theorem apart_any (w : World) (a0 a1 a2 a3 b0 b1 b2 b3 p m q n : Int) (hm : 0 ≤ m ∧ m ≤ 1000000000000) (hn : 0 ≤ n ∧ n ≤ 1000000000000) (hp : 0 ≤ p ∧ p ≤ 1000000000000) (hq : 0 ≤ q ∧ q ≤ 1000000000000) :
    Calls Try.prog 54 #[.agg #[.int .u8 a0, .int .u8 a1, .int .u8 a2, .int .u8 a3, .int .i64 p, .int .i64 m], .agg #[.int .u8 b0, .int .u8 b1, .int .u8 b2, .int .u8 b3, .int .i64 q, .int .i64 n]] w fun e w' => e = .returned (.bool (!overTab ([a0, a1, a2, a3], p, m) ([b0, b1, b2, b3], q, n))) ∧ Below w.heap.size w w' := by
  obtain ⟨R, hR⟩ : ∃ R, R = !overTab ([a0, a1, a2, a3], p, m) ([b0, b1, b2, b3], q, n) := ⟨_, rfl⟩
  rw [← hR]
  unfold overTab at hR
  simp only [] at hR
  have q1 : IntKind.i64.wrap (p + m) = p + m := by rw [IntKind.wrap_i64]; omega
  have q2 : IntKind.i64.wrap (q + n) = q + n := by rw [IntKind.wrap_i64]; omega
  obtain ⟨w1, hw1⟩ : ∃ w1, w.alloc (.cells #[.int .u8 a0, .int .u8 a1, .int .u8 a2, .int .u8 a3, .int .i64 p, .int .i64 m] 41) = w1 := ⟨_, rfl⟩
  obtain ⟨w2, hw2⟩ : ∃ w2, w1.alloc (.cells #[.int .u8 b0, .int .u8 b1, .int .u8 b2, .int .u8 b3, .int .i64 q, .int .i64 n] 41) = w2 := ⟨_, rfl⟩
  have HB2 : Hid (Below w.heap.size w w2) := Lib.hid (by rw [← hw2, ← hw1]; exact below_alloc _ (below_alloc _ (Below.refl _ w)))
  have hs1 : w1.heap.size = w.heap.size + 1 := by rw [← hw1, heap_plus]
  have c4 : w2.cell? ⟨w.heap.size, 4, none⟩ = some (.int .i64 p) := by
    rw [← hw2]; refine cells_alloc _ ?_
    rw [← hw1, cell_of_row _ w.heap.size 4 _ _ _ (heap_alloc_new w _)]; rfl
  have c5 : w2.cell? ⟨w.heap.size, 5, none⟩ = some (.int .i64 m) := by
    rw [← hw2]; refine cells_alloc _ ?_
    rw [← hw1, cell_of_row _ w.heap.size 5 _ _ _ (heap_alloc_new w _)]; rfl
  have d4 : w2.cell? ⟨w.heap.size + 1, 4, none⟩ = some (.int .i64 q) := by
    rw [← hs1, ← hw2, cell_of_row _ w1.heap.size 4 _ _ _ (heap_alloc_new w1 _)]; rfl
  have d5 : w2.cell? ⟨w.heap.size + 1, 5, none⟩ = some (.int .i64 n) := by
    rw [← hs1, ← hw2, cell_of_row _ w1.heap.size 5 _ _ _ (heap_alloc_new w1 _)]; rfl
  by_cases h1 : m = 0
  · have bm : (m == 0) = true := by simp [h1]
    have HV : Hid (R = true) := Lib.hid (by rw [hR]; simp [h1])
    clear hR h1 hm hn hp hq
    go_enter Try.func54, Try.ntmps54
    go_wp2_with fail
    go_ret
    exact ⟨by rw [HV.out]; rfl, HB2.out⟩
  · have bm : (m == 0) = false := by simp [h1]
    by_cases h2 : n = 0
    · have bn : (n == 0) = true := by simp [h2]
      have HV : Hid (R = true) := Lib.hid (by rw [hR]; simp [h2])
      clear hR h1 h2 hm hn hp hq
      go_enter Try.func54, Try.ntmps54
      go_wp2_with fail
      go_ret
      exact ⟨by rw [HV.out]; rfl, HB2.out⟩
    · have bn : (n == 0) = false := by simp [h2]
      by_cases h3 : p + m ≤ q
      · have bp : (p + m ≤ q) = True := eq_true h3
        have HV : Hid (R = true) := Lib.hid (by rw [hR]; simp [show ¬ q < p + m by omega])
        clear hR h1 h2 h3 hm hn hp hq
        go_enter Try.func54, Try.ntmps54
        go_wp2_with fail
        go_ret
        exact ⟨by rw [HV.out]; rfl, HB2.out⟩
      · have bp : (p + m ≤ q) = False := eq_false h3
        by_cases h4 : q + n ≤ p
        · have bq : (q + n ≤ p) = True := eq_true h4
          have HV : Hid (R = true) := Lib.hid (by rw [hR]; simp [show ¬ p < q + n by omega])
          clear hR h1 h2 h3 h4 hm hn hp hq
          go_enter Try.func54, Try.ntmps54
          go_wp2_with fail
          go_ret
          exact ⟨by rw [HV.out]; rfl, HB2.out⟩
        · have bq : (q + n ≤ p) = False := eq_false h4
          have HV : Hid (R = false) := Lib.hid (by rw [hR]; simp [show 0 < m by omega, show 0 < n by omega, show p < q + n by omega, show q < p + m by omega])
          clear hR h1 h2 h3 h4 hm hn hp hq
          go_enter Try.func54, Try.ntmps54
          go_wp2_with fail
          go_ret
          exact ⟨by rw [HV.out]; rfl, HB2.out⟩
end Go.Proofs.Ytijmponhkabeiaa

namespace Go.Proofs.Ytijmponhkabeiaa
open Go Go.RowKit

/-- a table's cells -/
def cellsT (t : TabL) : List Value := (t.1.map fun x => Value.int .u8 x) ++ [Value.int .i64 t.2.1, Value.int .i64 t.2.2]

theorem cellsT_len {t : TabL} (h : t.1.length = 4) : (cellsT t).length = 6 := by simp [cellsT, h]

theorem flat_len : ∀ (ts : List TabL), (∀ t ∈ ts, t.1.length = 4) → (ts.flatMap cellsT).length = 6 * ts.length
  | [], _ => rfl
  | t :: ts, h => by
    rw [List.flatMap_cons, List.length_append, cellsT_len (h t (by simp)), flat_len ts (fun u hu => h u (by simp [hu])), List.length_cons]
    omega

theorem flat_get : ∀ (ts : List TabL), (∀ t ∈ ts, t.1.length = 4) → ∀ (i j : Nat) (hi : i < ts.length), j < 6 → (ts.flatMap cellsT)[6 * i + j]? = (cellsT ts[i])[j]?
  | [], _, i, j, hi, _ => absurd hi (Nat.not_lt_zero _)
  | t :: ts, h, 0, j, hi, hj => by
    rw [List.flatMap_cons, List.getElem?_append_left (by rw [cellsT_len (h t (by simp))]; omega)]
    simp
  | t :: ts, h, i + 1, j, hi, hj => by
    have h6 := cellsT_len (h t (by simp))
    rw [List.flatMap_cons, List.getElem?_append_right (by omega), h6, show 6 * (i + 1) + j - 6 = 6 * i + j by omega]
    rw [flat_get ts (fun u hu => h u (by simp [hu])) i j (by simpa using hi) hj]
    simp

/-- tables that are there -/
def TabsZ (w : World) (v : Value) (ts : List TabL) : Prop :=
  ∃ A c, v = .slice A ts.length c ∧ ts.length ≤ c ∧ c ≤ 9223372036854775807 ∧ (ts ≠ [] → ∃ g, A = some ⟨g, 0, none⟩ ∧ g < w.heap.size ∧ ∀ (i j : Nat) (hi : i < ts.length), j < 6 → w.cell? ⟨g, 6 * i + j, none⟩ = (cellsT ts[i])[j]?)

theorem TabsZ.below {w w' : World} {v : Value} {ts : List TabL} (h : TabsZ w v ts) (hb : Below w.heap.size w w') : TabsZ w' v ts := by
  obtain ⟨A, c, e, hc, hc2, hx⟩ := h
  refine ⟨A, c, e, hc, hc2, fun hne => ?_⟩
  obtain ⟨g, hA, hg, hcell⟩ := hx hne
  have := hb.size
  exact ⟨g, hA, by omega, fun i j hi hj => by rw [hb.cell (by exact hg)]; exact hcell i j hi hj⟩

theorem infoT : (Try.prog.info? 41).map (fun i => (i.zero, i.size, i.bytes)) = some (some (.agg #[.int .u8 0, .int .u8 0, .int .u8 0, .int .u8 0, .int .i64 0, .int .i64 0]), 6, 24) := by kernel_rfl

/-- a row of tables of one's own -/
def OwnT (B : Nat) (w : World) (v : Value) (ts : List TabL) : Prop := w.ownsRow B 41 6 v ts.length (ts.flatMap cellsT)

theorem OwnT.nil (B : Nat) (w : World) : OwnT B w (.slice none 0 0) [] := World.ownsRow_nil _ _ _ _

theorem ownT_cases {B : Nat} {w : World} {v : Value} {ts : List TabL} (h : OwnT B w v ts) : (∃ A cap, v = .slice A ts.length cap) ∧ ∀ k, v.ownBlock = some k → B ≤ k := by
  have h1 : w.ownsRow B 41 6 v ts.length (ts.flatMap cellsT) := h
  rcases h1.2 with ⟨rfl, h0⟩ | ⟨g, cap, cur, rfl, hb, hg, rest⟩
  · exact ⟨⟨none, 0, by rw [h0]⟩, fun k hk => by simp [Value.ownBlock] at hk⟩
  · exact ⟨⟨_, cap, rfl⟩, fun k hk => by simp [Value.ownBlock] at hk; omega⟩

theorem ownT_stays {w w' : World} {B : Nat} {v : Value} {xs : List TabL} (h : OwnT B w v xs) (hb : Below w.heap.size w w') : OwnT B w' v xs := by
  have h1 : w.ownsRow B 41 6 v xs.length (xs.flatMap cellsT) := h
  refine ⟨h1.1, ?_⟩
  rcases h1.2 with h2 | ⟨g, cap, cur, e, hB, hg, rest⟩
  · exact .inl h2
  · exact .inr ⟨g, cap, cur, e, hB, by rw [hb.block g (own_row_lt hg)]; exact hg, rest⟩

theorem OwnT.read {B : Nat} {w : World} {v : Value} {ts : List TabL} (h : OwnT B w v ts) (h4 : ∀ t ∈ ts, t.1.length = 4) : TabsZ w v ts := by
  have h1 : w.ownsRow B 41 6 v ts.length (ts.flatMap cellsT) := h
  rcases h1.2 with ⟨rfl, h0⟩ | ⟨g, cap, cur, rfl, hb, hg, hc, hm, hs, ht⟩
  · exact ⟨none, 0, by rw [h0], by omega, by omega, fun hne => absurd (List.length_eq_zero_iff.1 h0) hne⟩
  · refine ⟨some ⟨g, 0, none⟩, cap, rfl, hc, by unfold maxLen at hm; omega, fun _ => ⟨g, rfl, own_row_lt hg, fun i j hi hj => ?_⟩⟩
    have hf := flat_get ts h4 i j hi hj
    have hlt : j < (cellsT ts[i]).length := by rw [cellsT_len (h4 _ (List.getElem_mem hi))]; exact hj
    rw [List.getElem?_eq_getElem hlt] at hf ⊢
    have := h1.cells (g := g) rfl (6 * i + j) _ hf
    rwa [add_flat, Nat.zero_add] at this

/-- append(s, x) for a table -/
theorem wp_append_t {ops : Array Oper} {rest : List Oper} {o : Oper} {a : Act} {Q : Exit → Act → World → Prop} {w : World} (hgd : o.guard = none) (s x : Operand)
    (ho : o.op = .call { callee := .builtin .append, args := #[s, x], argTypes := #[24, 24] })
    (B : Nat) (vs : Value) (l1 : List TabL) (hs : a.eval s = vs) (hown : OwnT B w vs l1) (g : Nat) (t : TabL) (ht : t.1.length = 4) (hx : a.eval x = .slice (some ⟨g, 0, none⟩) 1 1) (hcell : ∀ j, j < 6 → w.cell? ⟨g, j, none⟩ = (cellsT t)[j]?) (hl : l1.length ≤ 1000000) (hB : B ≤ w.heap.size)
    (h : ∀ v' w', OwnT B w' v' (l1 ++ [t]) → (∀ w0, Below B w0 w → Below B w0 w') → wpList Try.prog ops Q rest (a.put o.dst v') w') :
    wpList Try.prog ops Q (o :: rest) a w := by
  obtain ⟨i0, hi0I, hz0I, hs0I, hb0I⟩ : ∃ i0, Try.prog.info? 41 = some i0 ∧ i0.zero = some (.agg #[.int .u8 0, .int .u8 0, .int .u8 0, .int .u8 0, .int .i64 0, .int .i64 0]) ∧ i0.size = 6 ∧ i0.bytes = 24 := by
    have := infoT
    cases hq : Try.prog.info? 41 with
    | none => rw [hq] at this; cases this
    | some i0 =>
      rw [hq] at this
      simp only [Option.map_some, Option.some.injEq, Prod.mk.injEq] at this
      exact ⟨i0, rfl, this.1, this.2.1, this.2.2⟩
  have hge := (ownT_cases hown).2
  refine wpList_append_own_at (P := Try.prog) w hgd s x _ ho B 41 i0 (.agg #[.int .u8 0, .int .u8 0, .int .u8 0, .int .u8 0, .int .i64 0, .int .i64 0]) 6 24 Try.underlying24 hi0I hz0I hs0I hb0I rfl (by decide) _ _ _ hs hown ⟨g, 0, none⟩ 1 1 (cellsT t) hx (by rw [cellsT_len ht]) ?_ ?_ (by unfold maxLen; omega) (by omega) hB ?_
  · intro j u hj
    have hj6 : j < 6 := by
      rcases Nat.lt_or_ge j 6 with h' | h'
      · exact h'
      · rw [List.getElem?_eq_none (by rw [cellsT_len ht]; exact h')] at hj; cases hj
    rw [add_flat, Nat.zero_add, hcell j hj6]
    exact hj
  · intro u hu
    unfold cellsT at hu
    rcases List.mem_append.1 hu with hu | hu
    · obtain ⟨d, _, rfl⟩ := List.mem_map.1 hu; rfl
    · rcases List.mem_cons.1 hu with rfl | hu
      · rfl
      · obtain rfl := List.mem_singleton.1 hu; rfl
  · intro v' w' hown' hgrow _ _
    exact h v' w' (by unfold OwnT; rw [List.length_append, List.flatMap_append]; simpa using hown') (fun w0 hb => hb.grown hgrow hB (fun k hk => hge k hk))

theorem infoU : (Try.prog.info? 62).map (fun i => (i.zero, i.size, i.bytes)) = some (some (.agg #[.int .u8 0, .int .u8 0, .int .u8 0, .int .u8 0, .int .i64 0, .int .i64 0]), 6, 24) := by kernel_rfl

/-- a row of tables of one's own -/
def OwnU (B : Nat) (w : World) (v : Value) (ts : List TabL) : Prop := w.ownsRow B 62 6 v ts.length (ts.flatMap cellsT)

theorem OwnU.nil (B : Nat) (w : World) : OwnU B w (.slice none 0 0) [] := World.ownsRow_nil _ _ _ _

theorem ownU_cases {B : Nat} {w : World} {v : Value} {ts : List TabL} (h : OwnU B w v ts) : (∃ A cap, v = .slice A ts.length cap) ∧ ∀ k, v.ownBlock = some k → B ≤ k := by
  have h1 : w.ownsRow B 62 6 v ts.length (ts.flatMap cellsT) := h
  rcases h1.2 with ⟨rfl, h0⟩ | ⟨g, cap, cur, rfl, hb, hg, rest⟩
  · exact ⟨⟨none, 0, by rw [h0]⟩, fun k hk => by simp [Value.ownBlock] at hk⟩
  · exact ⟨⟨_, cap, rfl⟩, fun k hk => by simp [Value.ownBlock] at hk; omega⟩

theorem ownU_stays {w w' : World} {B : Nat} {v : Value} {xs : List TabL} (h : OwnU B w v xs) (hb : Below w.heap.size w w') : OwnU B w' v xs := by
  have h1 : w.ownsRow B 62 6 v xs.length (xs.flatMap cellsT) := h
  refine ⟨h1.1, ?_⟩
  rcases h1.2 with h2 | ⟨g, cap, cur, e, hB, hg, rest⟩
  · exact .inl h2
  · exact .inr ⟨g, cap, cur, e, hB, by rw [hb.block g (own_row_lt hg)]; exact hg, rest⟩

theorem OwnU.read {B : Nat} {w : World} {v : Value} {ts : List TabL} (h : OwnU B w v ts) (h4 : ∀ t ∈ ts, t.1.length = 4) : TabsZ w v ts := by
  have h1 : w.ownsRow B 62 6 v ts.length (ts.flatMap cellsT) := h
  rcases h1.2 with ⟨rfl, h0⟩ | ⟨g, cap, cur, rfl, hb, hg, hc, hm, hs, ht⟩
  · exact ⟨none, 0, by rw [h0], by omega, by omega, fun hne => absurd (List.length_eq_zero_iff.1 h0) hne⟩
  · refine ⟨some ⟨g, 0, none⟩, cap, rfl, hc, by unfold maxLen at hm; omega, fun _ => ⟨g, rfl, own_row_lt hg, fun i j hi hj => ?_⟩⟩
    have hf := flat_get ts h4 i j hi hj
    have hlt : j < (cellsT ts[i]).length := by rw [cellsT_len (h4 _ (List.getElem_mem hi))]; exact hj
    rw [List.getElem?_eq_getElem hlt] at hf ⊢
    have := h1.cells (g := g) rfl (6 * i + j) _ hf
    rwa [add_flat, Nat.zero_add] at this

/-- append(s, x) for a table -/
theorem wp_append_u {ops : Array Oper} {rest : List Oper} {o : Oper} {a : Act} {Q : Exit → Act → World → Prop} {w : World} (hgd : o.guard = none) (s x : Operand)
    (ho : o.op = .call { callee := .builtin .append, args := #[s, x], argTypes := #[28, 28] })
    (B : Nat) (vs : Value) (l1 : List TabL) (hs : a.eval s = vs) (hown : OwnU B w vs l1) (g : Nat) (t : TabL) (ht : t.1.length = 4) (hx : a.eval x = .slice (some ⟨g, 0, none⟩) 1 1) (hcell : ∀ j, j < 6 → w.cell? ⟨g, j, none⟩ = (cellsT t)[j]?) (hl : l1.length ≤ 1000000) (hB : B ≤ w.heap.size)
    (h : ∀ v' w', OwnU B w' v' (l1 ++ [t]) → (∀ w0, Below B w0 w → Below B w0 w') → wpList Try.prog ops Q rest (a.put o.dst v') w') :
    wpList Try.prog ops Q (o :: rest) a w := by
  obtain ⟨i0, hi0I, hz0I, hs0I, hb0I⟩ : ∃ i0, Try.prog.info? 62 = some i0 ∧ i0.zero = some (.agg #[.int .u8 0, .int .u8 0, .int .u8 0, .int .u8 0, .int .i64 0, .int .i64 0]) ∧ i0.size = 6 ∧ i0.bytes = 24 := by
    have := infoU
    cases hq : Try.prog.info? 62 with
    | none => rw [hq] at this; cases this
    | some i0 =>
      rw [hq] at this
      simp only [Option.map_some, Option.some.injEq, Prod.mk.injEq] at this
      exact ⟨i0, rfl, this.1, this.2.1, this.2.2⟩
  have hge := (ownU_cases hown).2
  refine wpList_append_own_at (P := Try.prog) w hgd s x _ ho B 62 i0 (.agg #[.int .u8 0, .int .u8 0, .int .u8 0, .int .u8 0, .int .i64 0, .int .i64 0]) 6 24 Try.underlying28 hi0I hz0I hs0I hb0I rfl (by decide) _ _ _ hs hown ⟨g, 0, none⟩ 1 1 (cellsT t) hx (by rw [cellsT_len ht]) ?_ ?_ (by unfold maxLen; omega) (by omega) hB ?_
  · intro j u hj
    have hj6 : j < 6 := by
      rcases Nat.lt_or_ge j 6 with h' | h'
      · exact h'
      · rw [List.getElem?_eq_none (by rw [cellsT_len ht]; exact h')] at hj; cases hj
    rw [add_flat, Nat.zero_add, hcell j hj6]
    exact hj
  · intro u hu
    unfold cellsT at hu
    rcases List.mem_append.1 hu with hu | hu
    · obtain ⟨d, _, rfl⟩ := List.mem_map.1 hu; rfl
    · rcases List.mem_cons.1 hu with rfl | hu
      · rfl
      · obtain rfl := List.mem_singleton.1 hu; rfl
  · intro v' w' hown' hgrow _ _
    exact h v' w' (by unfold OwnU; rw [List.length_append, List.flatMap_append]; simpa using hown') (fun w0 hb => hb.grown hgrow hB (fun k hk => hge k hk))
end Go.Proofs.Ytijmponhkabeiaa

namespace Go.Proofs.Ytijmponhkabeiaa
open Go Go.RowKit

theorem sizeB (w : World) : (Go.sizeOf 5).run Try.prog w = .ok 1 w := by kernel_rfl

/-- a piece of bytes, as a value -/
def cutV (A : Option Addr) (s t c : Nat) : Value := .slice (if c = s then A else A.map (·.add (s * 1))) (t - s) (c - s)

theorem run_cut_lh (W : World) (A : Option Addr) (N c s t : Nat) (hst : s ≤ t) (htc : t ≤ c) :
    (Instr.slice 22 (.slice A N c) (some (.int .i64 (s : Int))) (some (.int .i64 (t : Int))) none).run Try.prog W = .ok (cutV A s t c) W := by
  have ht' : Try.prog.underlying 22 = some (.slice (Try.prog.elem 22)) := by simp [Program.elem, Try.underlying22]
  have he : Try.prog.elem 22 = 5 := by simp [Program.elem, Try.underlying22]
  rw [run_slice_lh W _ _ _ _ ht' .i64 .i64 _ _ (by omega) (by omega) (by omega), he, sizeB]
  simp [sliced, cutV]

theorem run_cut_h (W : World) (A : Option Addr) (N c t : Nat) (htc : t ≤ c) :
    (Instr.slice 22 (.slice A N c) none (some (.int .i64 (t : Int))) none).run Try.prog W = .ok (cutV A 0 t c) W := by
  have ht' : Try.prog.underlying 22 = some (.slice (Try.prog.elem 22)) := by simp [Program.elem, Try.underlying22]
  have he : Try.prog.elem 22 = 5 := by simp [Program.elem, Try.underlying22]
  rw [run_slice_h W _ _ _ _ ht' .i64 _ (by omega) (by omega), he, sizeB]
  simp [sliced, cutV]

theorem run_cut_l (W : World) (A : Option Addr) (N c s : Nat) (hs : s ≤ N) :
    (Instr.slice 22 (.slice A N c) (some (.int .i64 (s : Int))) none none).run Try.prog W = .ok (cutV A s N c) W := by
  have ht' : Try.prog.underlying 22 = some (.slice (Try.prog.elem 22)) := by simp [Program.elem, Try.underlying22]
  have he : Try.prog.elem 22 = 5 := by simp [Program.elem, Try.underlying22]
  rw [run_slice_l W _ _ _ _ ht' .i64 _ (by omega) (by omega), he, sizeB]
  simp [sliced, cutV]

theorem cut_num {w : World} {A : Option Addr} {N c : Nat} {l : List Int} (hv : NumZ .u8 w (.slice A N c) l) (s t : Nat) (hst : s ≤ t) (ht : t ≤ l.length) : NumZ .u8 w (cutV A s t c) ((l.drop s).take (t - s)) := by
  obtain ⟨A', c', e, h1, h2, hx⟩ := hv
  injection e with e1 e2 e3
  subst e1 e2 e3
  have hpl : ((l.drop s).take (t - s)).length = t - s := by simp; omega
  refine ⟨_, _, by rw [hpl]; rfl, by rw [hpl]; omega, by omega, fun hne => ?_⟩
  have hst' : s < t := by
    rcases Nat.lt_or_ge s t with h | h
    · exact h
    · exact absurd (List.length_eq_zero_iff.1 (by rw [hpl]; omega)) hne
  obtain ⟨g, off, rfl, hg, hc⟩ := hx (by rintro rfl; simp at ht; omega)
  refine ⟨g, off + s, ?_, hg, fun j hj => ?_⟩
  · rw [if_neg (by omega)]
    simp [Addr.add]
  · rw [hpl] at hj
    rw [show off + s + j = off + (s + j) by omega, hc (s + j) (by omega)]
    simp

theorem cut_nn {A : Option Addr} {N c : Nat} (hnn : ∀ n c', Value.slice A N c = .slice none n c' → n = 0 ∧ c' = 0) (s t : Nat) (htN : t ≤ N) : ∀ n c', cutV A s t c = .slice none n c' → n = 0 ∧ c' = 0 := by
  intro n c' h
  unfold cutV at h
  injection h with h1 h2 h3
  cases A with
  | none =>
    obtain ⟨e1, e2⟩ := hnn N c rfl
    omega
  | some a =>
    split at h1
    · cases h1
    · cases h1

theorem cutV_len (A : Option Addr) (s t c : Nat) : ∃ A' c', cutV A s t c = .slice A' (t - s) c' := ⟨_, _, rfl⟩

theorem piece_b {l : List Int} (h : AllB l) (s n : Nat) : AllB ((l.drop s).take n) := fun x hx => h x (List.mem_of_mem_drop (List.mem_of_mem_take hx))

theorem sumT_zeros (n : Nat) : ∀ i, sumT (List.replicate n 0) i = 0 := by
  induction n with
  | zero => intro i; rfl
  | succ n ih => intro i; rw [List.replicate_succ, sumT, ih]; simp

theorem zeroTo_parts (l : List Int) : zeroTo l 12 = l.take (min 8 l.length) ++ (List.replicate (min 12 l.length - min 8 l.length) 0 ++ l.drop (min 12 l.length)) := by
  apply List.ext_getElem
  · rw [zeroTo_len]; simp; omega
  · intro j h1 h2
    have hj : j < l.length := by rw [zeroTo_len] at h1; exact h1
    rw [zeroTo_get l 12 j hj]
    by_cases h8 : j < 8
    · rw [if_neg (by omega), List.getElem_append_left (by simp; omega), List.getElem_take]
    · rw [List.getElem_append_right (by simp; omega)]
      by_cases h12 : j < 12
      · rw [if_pos (by omega), List.getElem_append_left (by simp; omega), List.getElem_replicate]
      · rw [if_neg (by omega), List.getElem_append_right (by simp; omega), List.getElem_drop]
        congr 1
        simp; omega

theorem sumS_parts (l : List Int) : sumS (zeroTo l 12) = (sumS (l.take (min 8 l.length)) + sumS (l.drop (min 12 l.length))) % 4294967296 := by
  have h : sumT (zeroTo l 12) 0 = sumT (l.take (min 8 l.length)) 0 + sumT (l.drop (min 12 l.length)) 0 := by
    rw [zeroTo_parts, sumT_append, sumT_append, sumT_zeros, Int.zero_add]
    congr 1
    by_cases h12 : 12 ≤ l.length
    · rw [show 0 + (l.take (min 8 l.length)).length + (List.replicate (min 12 l.length - min 8 l.length) (0 : Int)).length = 0 + 4 * 3 by simp; omega, sumT_four]
    · rw [Nat.min_eq_right (show l.length ≤ 12 by omega), List.drop_length]; rfl
  unfold sumS
  rw [h]
  omega

set_option maxRecDepth 20000 in
theorem isHeadP_any (w : World) (t : List Int) (hb : AllB t) (ht : t.length = 4) : Calls Try.prog 62 #[tagV t] w fun e w' => e = .returned (.bool (decide (t = headT))) ∧ Below w.heap.size w w' := by
  have heq := fun W => eq_tags W t headT hb headT_b ht rfl
  obtain ⟨a, b, c, d, rfl⟩ : ∃ a b c d, t = [a, b, c, d] := by
    match t, ht with
    | [a, b, c, d], _ => exact ⟨a, b, c, d, rfl⟩
  obtain ⟨R, hR⟩ : ∃ R, R = decide ([a, b, c, d] = headT) := ⟨_, rfl⟩
  rw [← hR] at heq ⊢
  have heq' : ∀ W, (binOp BinOp.eql 39 (.agg #[.int .u8 a, .int .u8 b, .int .u8 c, .int .u8 d]) (.agg #[.int .u8 104, .int .u8 101, .int .u8 97, .int .u8 100])).run Try.prog W = .ok (.bool R) W := heq
  show Calls Try.prog 62 #[.agg #[.int .u8 a, .int .u8 b, .int .u8 c, .int .u8 d]] w _
  clear hR ht hb heq
  go_enter Try.func62, Try.ntmps62
  go_wp2_with fail
  go_ret
  exact ⟨rfl, below_alloc _ (Below.refl _ w)⟩

set_option maxHeartbeats 4000000 in
set_option maxRecDepth 20000 in
theorem sumP_any (w : World) (t : List Int) (ht : AllB t) (lt : t.length = 4) (v : Value) (l : List Int) (hv : NumZ .u8 w v l) (hA : AllB l) (hl : l.length ≤ 1000000) :
    Calls Try.prog 55 #[tagV t, v] w fun e w' => e = .returned (.int .u32 (sumTag t l)) ∧ Below w.heap.size w w' := by
  have HIH := Lib.hid (fun wx => isHeadP_any wx t ht lt)
  have HS : Hid (∀ wx vx m, NumZ .u8 wx vx m → AllB m → m.length ≤ 1000000 → Calls Try.prog 21 #[vx] wx fun e w' => e = .returned (.int .u32 (sumS m)) ∧ Below wx.heap.size wx w') := Lib.hid (fun wx vx m h1 h2 h3 => sum_any wx vx m h1 h2 h3)
  have HV := Lib.hid hv
  have HA := Lib.hid hA
  have HL := Lib.hid hl
  obtain ⟨a, b, c, d, rfl⟩ : ∃ a b c d, t = [a, b, c, d] := by
    match t, lt with
    | [a, b, c, d], _ => exact ⟨a, b, c, d, rfl⟩
  obtain ⟨R, hR⟩ : ∃ R, R = decide ([a, b, c, d] = headT) := ⟨_, rfl⟩
  rw [← hR] at HIH
  obtain ⟨Z, hZ⟩ : ∃ Z, Z = sumTag [a, b, c, d] l := ⟨_, rfl⟩
  rw [← hZ]
  have HZ : Hid ((R = true → Z = (sumS (l.take (min 8 l.length)) + sumS (l.drop (min 12 l.length))) % 4294967296) ∧ (R = false → Z = sumS l)) := Lib.hid (by
    rw [hZ, hR]; unfold sumTag
    constructor
    · intro h; rw [if_pos (of_decide_eq_true h), sumS_parts]
    · intro h; rw [if_neg (of_decide_eq_false h)])
  have HIH2 : Hid (∀ wx, Calls Try.prog 62 #[.agg #[.int .u8 a, .int .u8 b, .int .u8 c, .int .u8 d]] wx fun e w' => e = .returned (.bool R) ∧ Below wx.heap.size wx w') := HIH
  show Calls Try.prog 55 #[.agg #[.int .u8 a, .int .u8 b, .int .u8 c, .int .u8 d], v] w _
  obtain ⟨w1, hw1⟩ : ∃ w1, w.alloc (.cells #[.int .u8 a, .int .u8 b, .int .u8 c, .int .u8 d] 39) = w1 := ⟨_, rfl⟩
  have HB1 : Hid (Below w.heap.size w w1) := Lib.hid (by rw [← hw1]; exact below_alloc _ (Below.refl _ w))
  obtain ⟨c0, c1, c2, c3⟩ : w1.cell? ⟨w.heap.size, 0, none⟩ = some (.int .u8 a) ∧ w1.cell? ⟨w.heap.size, 1, none⟩ = some (.int .u8 b) ∧ w1.cell? ⟨w.heap.size, 2, none⟩ = some (.int .u8 c) ∧ w1.cell? ⟨w.heap.size, 3, none⟩ = some (.int .u8 d) := by
    refine ⟨?_, ?_, ?_, ?_⟩ <;> (rw [← hw1, cell_of_row _ w.heap.size _ _ _ _ (heap_alloc_new w _)]; rfl)
  obtain ⟨A, cc, rfl, hc1, hc2, _⟩ := hv
  obtain ⟨N, hN⟩ : ∃ N, N = l.length := ⟨_, rfl⟩
  have HN := Lib.hid hN
  rw [← hN] at HV hc1 hl HZ ⊢
  obtain ⟨m8, hm8⟩ : ∃ m8, m8 = min 8 N := ⟨_, rfl⟩
  obtain ⟨m12, hm12⟩ : ∃ m12, m12 = min 12 N := ⟨_, rfl⟩
  rw [← hm8, ← hm12] at HZ
  have i8 : (if (N : Int) < 8 then (N : Int) else 8) = (m8 : Int) := by split <;> omega
  have i12 : (if (N : Int) < 12 then (N : Int) else 12) = (m12 : Int) := by split <;> omega
  have hs8 : ∀ W, (Instr.slice 22 (.slice A N cc) none (some (.int .i64 (m8 : Int))) none).run Try.prog W = .ok (cutV A 0 m8 cc) W := fun W => run_cut_h W A N cc m8 (by omega)
  have hs12 : ∀ W, (Instr.slice 22 (.slice A N cc) (some (.int .i64 (m12 : Int))) none none).run Try.prog W = .ok (cutV A m12 N cc) W := fun W => run_cut_l W A N cc m12 (by omega)
  obtain ⟨V8, hV8⟩ : ∃ V8, V8 = cutV A 0 m8 cc := ⟨_, rfl⟩
  obtain ⟨V12, hV12⟩ : ∃ V12, V12 = cutV A m12 N cc := ⟨_, rfl⟩
  have e8 : (l.drop 0).take (m8 - 0) = l.take m8 := by simp
  have e12 : (l.drop m12).take (N - m12) = l.drop m12 := by rw [List.take_of_length_le]; simp; omega
  have HSA : Hid (∀ wx, Below w.heap.size w wx → Calls Try.prog 21 #[V8] wx fun e w' => e = .returned (.int .u32 (sumS (l.take m8))) ∧ Below wx.heap.size wx w') := Lib.hid (fun wx hx => by
    have h := HS.out wx V8 _ (by rw [hV8]; exact cut_num (HV.out.below hx) 0 m8 (Nat.zero_le _) (by omega)) (piece_b HA.out _ _) (by simp; omega)
    rw [e8] at h; exact h)
  have HSB : Hid (∀ wx, Below w.heap.size w wx → Calls Try.prog 21 #[V12] wx fun e w' => e = .returned (.int .u32 (sumS (l.drop m12))) ∧ Below wx.heap.size wx w') := Lib.hid (fun wx hx => by
    have h := HS.out wx V12 _ (by rw [hV12]; exact cut_num (HV.out.below hx) m12 N (by omega) (by omega)) (piece_b HA.out _ _) (by simp; omega)
    rw [e12] at h; exact h)
  have HSW : Hid (∀ wx, Below w.heap.size w wx → Calls Try.prog 21 #[.slice A N cc] wx fun e w' => e = .returned (.int .u32 (sumS l)) ∧ Below wx.heap.size wx w') := Lib.hid (fun wx hx => HS.out wx _ _ (HV.out.below hx) HA.out (by omega))
  rw [← hV8] at hs8
  rw [← hV12] at hs12
  generalize sumS (l.take m8) = x8 at HZ HSA
  generalize sumS (l.drop m12) = x12 at HZ HSB
  generalize sumS l = xw at HZ HSW
  have HSAB : Hid (∀ wx, Below w.heap.size w wx → ∀ V x, ((V = V8 ∧ x = x8) ∨ (V = V12 ∧ x = x12)) → Calls Try.prog 21 #[V] wx fun e w' => e = .returned (.int .u32 x) ∧ Below w.heap.size w w') := Lib.hid (fun wx hx V x h => by
    rcases h with ⟨rfl, rfl⟩ | ⟨rfl, rfl⟩
    · exact (HSA.out wx hx).mono fun e w' h => ⟨h.1, hx.trans (h.2.mono hx.size)⟩
    · exact (HSB.out wx hx).mono fun e w' h => ⟨h.1, hx.trans (h.2.mono hx.size)⟩)
  clear HSA HSB
  have hwr : IntKind.u32.wrap (x8 + x12) = (x8 + x12) % 4294967296 := by rw [wrap_u32]
  clear hR hZ lt ht hA hl hN hc1 hc2 hV8 hV12 hm8 hm12 e8 e12
  go_enter Try.func55, Try.ntmps55
  go_wp2_with fail
  refine (HIH2.out _).mono ?_
  rintro e w4 ⟨rfl, hb4⟩
  have HB4 := Lib.hid (HB1.out.trans (hb4.mono HB1.out.size))
  clear hb4 c0 c1 c2 c3 hw1
  cases R with
  | false =>
    have HZV : Hid (Z = xw) := Lib.hid (HZ.out.2 rfl)
    go_wp2_with fail
    refine (HSW.out _ HB4.out).mono ?_
    rintro e w5 ⟨rfl, hb5⟩
    rw [← HZV.out]
    have HB5 := Lib.hid (HB4.out.trans (hb5.mono HB4.out.size))
    clear hb5
    go_wp2_with fail
    go_ret
    exact ⟨rfl, HB5.out⟩
  | true =>
    have HZV : Hid (Z = (x8 + x12) % 4294967296) := Lib.hid (HZ.out.1 rfl)
    go_upto_region 4 with fail
    go_region_held3 (fun w' => Below w.heap.size w w')
      (first | assumption | exact HB4.out | exact HB4.out.drew)
      (first
        | (go_at_call 21; go_split_ands; refine (HSAB.out _ (by assumption) _ _ (by first | exact .inl ⟨rfl, rfl⟩ | exact .inr ⟨rfl, rfl⟩)).mono ?_; rintro e wx ⟨rfl, hbx⟩))
    all_goals (go_wp2_with fail; go_ret; exact ⟨by rw [HZV.out]; rfl, by assumption⟩)
end Go.Proofs.Ytijmponhkabeiaa
