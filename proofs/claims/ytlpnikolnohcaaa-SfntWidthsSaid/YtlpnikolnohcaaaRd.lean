/-
  A reader that is there, and not bad: what is asked of it lies within its bytes.
-/
import Derived.Test.YtlpnikolnohcaaaOr
namespace Go.Proofs.Ytlpnikolnohcaaa
open Go Go.RowKit

/-- a reader that has these bytes, and isn't bad -/
def RdZ (w : World) (r : Value) (l : List Int) : Prop :=
  ∃ gr gs A c, r = .pointer (some ⟨gr, 0, none⟩) ∧ gr < w.heap.size ∧ gs < w.heap.size ∧ w.cell? ⟨gr, 0, none⟩ = some (.pointer (some ⟨gs, 0, none⟩)) ∧ w.cell? ⟨gr, 1, none⟩ = some (.slice A l.length c) ∧ w.cell? ⟨gs, 0, none⟩ = some (.bool false) ∧ NumZ .u8 w (.slice A l.length c) l ∧ (A = none → c = 0)

theorem RdZ.below {w w' : World} {r : Value} {l : List Int} (h : RdZ w r l) (hb : Below w.heap.size w w') : RdZ w' r l := by
  obtain ⟨gr, gs, A, c, e, h1, h2, h3, h4, h5, h6, h7⟩ := h
  have := hb.size
  exact ⟨gr, gs, A, c, e, by omega, by omega, cellsAt_below h3 hb, cellsAt_below h4 hb, cellsAt_below h5 hb, h6.below hb, h7⟩

set_option maxRecDepth 20000 in
theorem rd_len (w : World) (r : Value) (l : List Int) (hr : RdZ w r l) : Calls Try.prog 68 #[r] w fun e w' => e = .returned (.int .i64 (l.length : Int)) ∧ w = w' := by
  obtain ⟨gr, gs, A, c, rfl, _, _, _, h4, _, _, _⟩ := hr
  obtain ⟨N, hN⟩ : ∃ N, N = l.length := ⟨_, rfl⟩
  rw [← hN] at h4 ⊢
  clear hN
  go_enter Try.func68, Try.ntmps68
  go_wp2_with fail
  go_ret
  exact ⟨rfl, rfl⟩

set_option maxRecDepth 20000 in
theorem rd_bad (w : World) (r : Value) (l : List Int) (hr : RdZ w r l) : Calls Try.prog 73 #[r] w fun e w' => e = .returned (.bool false) ∧ w = w' := by
  obtain ⟨gr, gs, A, c, rfl, _, _, h3, _, h5, _, _⟩ := hr
  go_enter Try.func73, Try.ntmps73
  go_wp2_with fail
  go_ret
  exact ⟨rfl, rfl⟩

set_option maxRecDepth 20000 in
theorem rd_has (w : World) (r : Value) (l : List Int) (hr : RdZ w r l) (hl : l.length ≤ 1000000000) (at_ n sz : Nat) (hs : sz = 1 ∨ sz = 2 ∨ sz = 4) (h : at_ + n * sz ≤ l.length) :
    Calls Try.prog 69 #[r, .int .i64 (at_ : Int), .int .i64 (n : Int), .int .i64 (sz : Int)] w fun e w' => e = .returned (.bool true) ∧ w = w' := by
  obtain ⟨gr, gs, A, c, rfl, _, _, _, h4, _, _, _⟩ := hr
  obtain ⟨N, hN⟩ : ∃ N, N = l.length := ⟨_, rfl⟩
  rw [← hN] at h4 hl h
  obtain ⟨d, hd⟩ : ∃ d, d = N - at_ := ⟨_, rfl⟩
  obtain ⟨q, hq⟩ : ∃ q, q = d / sz := ⟨_, rfl⟩
  have h1 : at_ ≤ N := by omega
  have h2 : n ≤ q := by
    rw [hq, Nat.le_div_iff_mul_le (by omega)]; omega
  have b1 : ((0 : Int) ≤ (at_ : Int)) = True := eq_true (Int.natCast_nonneg _)
  have b2 : ((0 : Int) ≤ (n : Int)) = True := eq_true (Int.natCast_nonneg _)
  have b3 : ((at_ : Int) ≤ (N : Int)) = True := eq_true (by omega)
  have b4 : ((n : Int) ≤ (q : Int)) = True := eq_true (by omega)
  have q1 : IntKind.i64.wrap ((N : Int) - (at_ : Int)) = (d : Int) := by rw [IntKind.wrap_i64]; omega
  have hq2 : (q : Int) ≤ 1000000000 := by
    have : q ≤ d := by rw [hq]; exact Nat.div_le_self _ _
    omega
  have q2 : wrap64 ((d : Int) / (sz : Int)) = (q : Int) := by
    have e : ((d : Int) / (sz : Int)) = ((d / sz : Nat) : Int) := (Int.natCast_ediv d sz).symm
    rw [e, ← hq]; unfold wrap64; omega
  have bz : ((sz : Int) == 0) = false := by simp; omega
  have hz0 : (sz : Int) ≠ 0 := by omega
  clear hN hd hq h hs hl h1 h2 hq2
  go_enter Try.func69, Try.ntmps69
  go_wp2_with fail
  go_ret
  exact ⟨rfl, rfl⟩

/-- its own values, for the walks: the pointer, the bytes' place -/
theorem RdZ.open {w : World} {r : Value} {l : List Int} (h : RdZ w r l) (hne : l ≠ []) : ∃ gr gs g off c, r = .pointer (some ⟨gr, 0, none⟩) ∧ gr < w.heap.size ∧ g < w.heap.size ∧ l.length ≤ c ∧ c ≤ 9223372036854775807 ∧ w.cell? ⟨gr, 0, none⟩ = some (.pointer (some ⟨gs, 0, none⟩)) ∧
    w.cell? ⟨gr, 1, none⟩ = some (.slice (some ⟨g, off, none⟩) l.length c) ∧ ∀ (j : Nat) (h : j < l.length), w.cell? ⟨g, off + j, none⟩ = some (.int .u8 l[j]) := by
  obtain ⟨gr, gs, A, c, e, h1, h2, h3, h4, h5, h6, h7⟩ := h
  have h6' := h6
  obtain ⟨A', c', e', hc1, hc2, _⟩ := h6'
  injection e' with e1 e2 e3
  subst e3
  obtain ⟨g, off, rfl, hg, hc⟩ := h6.cells hne
  exact ⟨gr, gs, g, off, c, e, h1, hg, hc1, hc2, h3, h4, hc⟩

set_option maxRecDepth 20000 in
theorem rd_word (w : World) (r : Value) (l : List Int) (hr : RdZ w r l) (hA : AllB l) (hl : l.length ≤ 1000000000) (at_ : Nat) (h : at_ + 1 < l.length) :
    Calls Try.prog 47 #[r, .int .i64 (at_ : Int)] w fun e w' => e = .returned (.int .u16 (l[at_]'(by omega) * 256 + l[at_ + 1])) ∧ Below w.heap.size w w' := by
  have HH := Lib.hid (rd_has w r l hr hl at_ 1 2 (.inr (.inl rfl)) (by omega))
  obtain ⟨gr, gs, g, off, c, rfl, _, _, _, _, h3, h4, hc⟩ := hr.open (by rintro rfl; simp at h)
  have c1 := hc at_ (by omega)
  have c2 := hc (at_ + 1) h
  have hx2 := hA.get at_ (by omega)
  have hy2 := hA.get (at_ + 1) h
  obtain ⟨x, hx⟩ : ∃ x, x = l[at_]'(by omega) := ⟨_, rfl⟩
  obtain ⟨y, hy⟩ : ∃ y, y = l[at_ + 1] := ⟨_, rfl⟩
  rw [← hx] at c1 hx2 ⊢
  rw [← hy] at c2 hy2 ⊢
  have w1 : IntKind.u16.wrap x = x := by rw [wrap_u16]; omega
  have w2 : IntKind.u16.wrap y = y := by rw [wrap_u16]; omega
  have w3 : IntKind.u16.wrap (x * 256) = x * 256 := by rw [wrap_u16]; omega
  have w4 := or_u16 x y hx2 hy2
  obtain ⟨N, hN⟩ : ∃ N, N = l.length := ⟨_, rfl⟩
  rw [← hN] at h4 h
  obtain ⟨b, hb⟩ : ∃ b, b = at_ + 1 := ⟨_, rfl⟩
  have q1 : IntKind.i64.wrap ((at_ : Int) + 1) = (b : Int) := by rw [IntKind.wrap_i64]; omega
  rw [← hb] at c2
  have a0 : (0 : Int) ≤ (at_ : Int) := Int.natCast_nonneg _
  have aN : (at_ : Int) < (N : Int) := by omega
  have b0 : (0 : Int) ≤ (b : Int) := Int.natCast_nonneg _
  have bN : (b : Int) < (N : Int) := by omega
  clear hN hc hx hy hr hl h hb hx2 hy2 hA
  go_enter Try.func47, Try.ntmps47
  go_wp2_with fail
  refine (HH.out).mono ?_
  rintro e w1 ⟨rfl, rfl⟩
  go_wp2_with fail
  go_region_held3 (fun w' => w'.cell? ⟨gr, 1, none⟩ = some (.slice (some ⟨g, off, none⟩) N c) ∧ w'.cell? ⟨g, off + at_, none⟩ = some (.int .u8 x) ∧ w'.cell? ⟨g, off + b, none⟩ = some (.int .u8 y)) (first | assumption | (go_split_ands; exact ⟨h4, c1, c2⟩) | (go_split_ands; exact ⟨by assumption, by assumption, by assumption⟩)) (fail)
  all_goals go_wp2_with fail
  go_ret
  exact ⟨rfl, (Below.refl _ w).drew⟩
end Go.Proofs.Ytlpnikolnohcaaa
