/-
  A reader's numbers of four bytes; copies; a reader of a copy; its bytes.
-/
import Derived.Test.YtlpnikolnohcaaaRd
import Derived.Lib.SliceRun
namespace Go.Proofs.Ytlpnikolnohcaaa
open Go Go.RowKit

/-- the number of two bytes from a place on -/
def wordAt (l : List Int) (p : Nat) : Int := l.getD p 0 * 256 + l.getD (p + 1) 0

theorem wordAt_b {l : List Int} (hA : AllB l) (p : Nat) : 0 ≤ wordAt l p ∧ wordAt l p ≤ 65535 := by
  have h : ∀ j, 0 ≤ l.getD j 0 ∧ l.getD j 0 ≤ 255 := by
    intro j
    rw [List.getD_eq_getElem?_getD]
    cases hj : l[j]? with
    | none => simp
    | some x => exact hA x (List.mem_of_getElem? hj)
  have h1 := h p
  have h2 := h (p + 1)
  unfold wordAt
  omega

theorem rd_word2 (w : World) (r : Value) (l : List Int) (hr : RdZ w r l) (hA : AllB l) (hl : l.length ≤ 1000000000) (p : Nat) (h : p + 1 < l.length) :
    Calls Try.prog 47 #[r, .int .i64 (p : Int)] w fun e w' => e = .returned (.int .u16 (wordAt l p)) ∧ Below w.heap.size w w' := by
  have e : wordAt l p = l[p]'(by omega) * 256 + l[p + 1] := by
    unfold wordAt
    rw [List.getD_eq_getElem?_getD, List.getD_eq_getElem?_getD, List.getElem?_eq_getElem h, List.getElem?_eq_getElem (by omega)]; rfl
  rw [e]
  exact rd_word w r l hr hA hl p h

set_option maxRecDepth 20000 in
theorem rd_int (w : World) (r : Value) (l : List Int) (hr : RdZ w r l) (hA : AllB l) (hl : l.length ≤ 1000000000) (p : Nat) (h : p + 1 < l.length) :
    Calls Try.prog 44 #[r, .int .i64 (p : Int)] w fun e w' => e = .returned (.int .i16 (IntKind.i16.wrap (wordAt l p))) ∧ Below w.heap.size w w' := by
  have HH := Lib.hid (rd_word2 w r l hr hA hl p h)
  generalize wordAt l p = x at HH ⊢
  clear hr hA hl h
  go_enter Try.func44, Try.ntmps44
  go_wp2_with fail
  refine (HH.out).mono ?_
  rintro e w1 ⟨rfl, hb⟩
  go_wp2_with fail
  go_ret
  exact ⟨rfl, hb⟩

set_option maxRecDepth 20000 in
theorem rd_long (w : World) (r : Value) (l : List Int) (hr : RdZ w r l) (hA : AllB l) (hl : l.length ≤ 1000000000) (p : Nat) (h : p + 3 < l.length) :
    Calls Try.prog 52 #[r, .int .i64 (p : Int)] w fun e w' => e = .returned (.int .u32 (wordAt l p * 65536 + wordAt l (p + 2))) ∧ Below w.heap.size w w' := by
  have HH := Lib.hid (rd_has w r l hr hl p 1 4 (.inr (.inr rfl)) (by omega))
  have H1 := Lib.hid (rd_word2 w r l hr hA hl p (by omega))
  obtain ⟨q, hq⟩ : ∃ q, q = p + 2 := ⟨_, rfl⟩
  have H2 : Hid (∀ w1, Below w.heap.size w w1 → Calls Try.prog 47 #[r, .int .i64 (q : Int)] w1 fun e w' => e = .returned (.int .u16 (wordAt l q)) ∧ Below w1.heap.size w1 w') := Lib.hid (fun w1 hb => rd_word2 w1 r l (hr.below hb) hA hl q (by omega))
  have hx := wordAt_b hA p
  have hy := wordAt_b hA q
  rw [← hq]
  generalize wordAt l p = x at H1 hx ⊢
  generalize wordAt l q = y at H2 hy ⊢
  have q1 : IntKind.i64.wrap ((p : Int) + 2) = (q : Int) := by rw [IntKind.wrap_i64]; omega
  have w1 : IntKind.u32.wrap x = x := by rw [wrap_u32]; omega
  have w2 : IntKind.u32.wrap y = y := by rw [wrap_u32]; omega
  have w3 : IntKind.u32.wrap (x * 65536) = x * 65536 := by rw [wrap_u32]; omega
  have w4 := or_u32 x y hx hy
  clear hr hA hl h hq hx hy
  go_enter Try.func52, Try.ntmps52
  go_wp2_with fail
  refine (HH.out).mono ?_
  rintro e wa ⟨rfl, rfl⟩
  go_wp2_with fail
  refine (H1.out).mono ?_
  rintro e wb ⟨rfl, hb1⟩
  have HB1 := Lib.hid hb1
  clear hb1
  go_wp2_with fail
  refine (H2.out _ HB1.out).mono ?_
  rintro e wd ⟨rfl, hb2⟩
  have HB2 := Lib.hid (HB1.out.trans (hb2.mono HB1.out.size))
  clear hb2
  go_wp2_with fail
  go_ret
  exact ⟨rfl, HB2.out⟩

set_option maxRecDepth 20000 in
theorem clone_any (w : World) (v : Value) (l : List Int) (hv : NumZ .u8 w v l) (hnn : ∀ n c, v = .slice none n c → n = 0 ∧ c = 0) (hl : l.length ≤ 1000000000) :
    Calls Try.prog 39 #[v] w fun e w' => Below w.heap.size w w' ∧ ∃ r, e = .returned r ∧ OwnB w.heap.size w' r l := by
  have HV := Lib.hid hv
  have HN := Lib.hid hnn
  have HL := Lib.hid hl
  obtain ⟨A, cap, rfl, h1, h2, h3⟩ := hv
  obtain ⟨N, hN⟩ : ∃ N, N = l.length := ⟨_, rfl⟩
  have HNN := Lib.hid hN
  rw [← hN] at HV HN ⊢
  clear h1 h2 h3 hnn hl hN
  have hnil : ∀ W, (binOp BinOp.eql 22 (.slice A N cap) (.slice none 0 0)).run Try.prog W = .ok (.bool A.isNone) W := fun W => Lib.run_eql_slice_nil W _ _ _ _ _ _ _ Try.underlying22
  cases A with
  | none =>
    have h0 := HN.out _ _ rfl
    have he : l = [] := List.length_eq_zero_iff.1 (by rw [← HNN.out]; exact h0.1)
    obtain ⟨h0, h1⟩ := h0
    subst h0; subst h1
    have HO : Hid (OwnB w.heap.size w (.slice none 0 0) l) := Lib.hid (by rw [he]; exact OwnB.nil _ _)
    clear he
    go_enter Try.func39, Try.ntmps39
    go_wp2_with fail
    go_ret
    exact ⟨Below.refl _ _, _, rfl, HO.out⟩
  | some ad =>
    go_enter Try.func39, Try.ntmps39
    go_wp2_with (at_builtin; refine wp_append_b rfl _ _ rfl w.heap.size _ [] rfl (own_new _ w [] (by simp) (Nat.le_refl _)) _ l rfl (HV.out.alloc _) (fun n c h => by cases h) (by have := HL.out; simp; omega) (Nat.le_of_lt (heap_more _ _)) ?_)
    intro v' w' how hk
    have HB := Lib.hid (hk _ ((Below.refl _ w).alloc (Nat.le_refl _) _))
    have HO := Lib.hid how
    clear how hk
    go_wp2_with fail
    go_ret
    exact ⟨HB.out, _, rfl, HO.out⟩

set_option maxRecDepth 20000 in
theorem open_any (w : World) (v : Value) (l : List Int) (hv : NumZ .u8 w v l) (hnn : ∀ n c, v = .slice none n c → n = 0 ∧ c = 0) (hl : l.length ≤ 1000000000) :
    Calls Try.prog 16 #[v] w fun e w' => Below w.heap.size w w' ∧ ∃ r, e = .returned r ∧ RdZ w' r l := by
  have HC := Lib.hid (clone_any (w.alloc (.cells #[.bool false] 74)) v l (hv.alloc _) hnn hl)
  have HB0 := Lib.hid ((Below.refl _ w).alloc (Nat.le_refl _) (.cells #[.bool false] 74))
  clear hv hnn hl
  go_enter Try.func16, Try.ntmps16
  go_wp2_with fail
  refine (HC.out).mono ?_
  rintro e w1 ⟨hb, v, rfl, how⟩
  obtain ⟨⟨A, c, hvv⟩, _⟩ := ownB_cases how
  have hnn := how.nn
  have hz := how.read
  rw [hvv] at hz hnn ⊢
  obtain ⟨N, hN⟩ : ∃ N, N = l.length := ⟨_, rfl⟩
  rw [← hN] at hz hnn ⊢
  have hcell : w1.cell? ⟨w.heap.size, 0, none⟩ = some (.bool false) := cellsAt_below (by
    rw [cell_of_row _ w.heap.size 0 _ _ _ (heap_alloc_new w _)]; rfl) hb
  have hlt : w.heap.size < w1.heap.size := by have := hb.size; rw [heap_plus] at this; omega
  have hb1 : Below w.heap.size w w1 := HB0.out.trans (hb.mono (Nat.le_of_lt (heap_more _ _)))
  obtain ⟨gs, hgs⟩ : ∃ gs, gs = w.heap.size := ⟨_, rfl⟩
  have HF : Hid (∀ (w2 : World), w2 = w1.alloc (.cells #[.pointer (some ⟨w.heap.size, 0, none⟩), .slice A N c] 77) → Below w.heap.size w w2 ∧ RdZ w2 (.pointer (some ⟨w1.heap.size, 0, none⟩)) l) := Lib.hid (by
    rintro w2 rfl
    refine ⟨hb1.alloc hb1.size _, w1.heap.size, w.heap.size, A, c, rfl, heap_more _ _, Nat.lt_trans hlt (heap_more _ _), ?_, ?_, cells_alloc _ hcell, ?_, fun h => ?_⟩
    · rw [cell_of_row _ w1.heap.size 0 _ _ _ (heap_alloc_new w1 _)]; rfl
    · rw [cell_of_row _ w1.heap.size 1 _ _ _ (heap_alloc_new w1 _), ← hN]; rfl
    · rw [← hN]; exact hz.alloc _
    · subst h; exact (hnn _ _ rfl).2)
  clear how hnn hz hvv hN hcell hlt hb1 hgs hb
  go_wp2_with fail
  go_ret
  have := HF.out _ rfl
  exact ⟨this.1, _, rfl, this.2⟩
end Go.Proofs.Ytlpnikolnohcaaa
