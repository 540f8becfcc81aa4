/-
  Pieces of slices.
-/
import Derived.Test.YtbdhgjaoojimmaaDoorGm
namespace Go.Proofs.YtbdhgjaoojimmaaDoor
open Go Go.RowKit
set_option linter.unusedVariables false

/-! ### pieces of slices -/
def cutx (l : List Int) (lo hi : Int) : Option (List Int) := if 0 ≤ lo ∧ lo ≤ hi ∧ hi ≤ l.length then some ((l.take hi.toNat).drop lo.toNat) else none

theorem cutx_in {l l' : List Int} {lo hi : Int} (h : cutx l lo hi = some l') : 0 ≤ lo ∧ lo ≤ hi ∧ hi ≤ (l.length : Int) ∧ l' = (l.take hi.toNat).drop lo.toNat := by
  unfold cutx at h
  split at h
  · rename_i hi; exact ⟨hi.1, hi.2.1, hi.2.2, (Option.some.inj h).symm⟩
  · cases h

theorem cutx_len {l l' : List Int} {lo hi : Int} (h : cutx l lo hi = some l') : l'.length = hi.toNat - lo.toNat := by
  obtain ⟨h0, h1, h2, rfl⟩ := cutx_in h
  simp
  omega

theorem cut_is (A : Option Addr) (lo hi c : Nat) : ∃ A' c', sliced A lo hi c 1 = .slice A' (hi - lo) c' := ⟨_, _, rfl⟩

theorem num_cut {k : IntKind} {w : World} {A A' : Option Addr} {c c' n' : Nat} {l l' : List Int} {lo hi : Int} (h : NumZ k w (.slice A l.length c) l) (hc : cutx l lo hi = some l') (hs : sliced A lo.toNat hi.toNat c 1 = .slice A' n' c') : NumZ k w (.slice A' l'.length c') l' := by
  have hl := cutx_len hc
  obtain ⟨h0, h1, h2, rfl⟩ := cutx_in hc
  obtain ⟨A2, c2, e, hc1, hc2, hx⟩ := h
  injection e with e1 e2 e3
  subst e1; subst e3
  unfold sliced at hs
  injection hs with s1 s2 s3
  rw [hl]
  refine ⟨A', c', by rw [hl], by rw [hl]; omega, by omega, fun hne => ?_⟩
  have hll : lo.toNat < hi.toNat := by
    rcases Nat.lt_or_ge lo.toNat hi.toNat with h' | h'
    · exact h'
    · exact absurd (List.length_eq_zero_iff.1 (by rw [hl]; omega)) hne
  obtain ⟨g, off, rfl, hg, hcell⟩ := hx (by rintro rfl; simp at h2; omega)
  rw [if_neg (by omega)] at s1
  refine ⟨g, off + lo.toNat, ?_, hg, fun j hj => ?_⟩
  · rw [← s1]; show some ((⟨g, off, none⟩ : Addr).add (lo.toNat * 1)) = _; rw [add_flat, Nat.mul_one]
  · rw [hl] at hj
    rw [Nat.add_assoc, hcell (lo.toNat + j) (by omega)]
    simp

theorem cut_nn {A A' : Option Addr} {c c' n' : Nat} {lo hi : Nat} (h : A = none → c = 0) (hs : sliced A lo hi c 1 = .slice A' n' c') : A' = none → c' = 0 := by
  unfold sliced at hs
  injection hs with s1 s2 s3
  intro h'
  subst h'
  cases A with
  | none => have := h rfl; omega
  | some p => split at s1 <;> cases s1

theorem Vw.cut {bs : List Nat} {k : IntKind} {w : World} {A A' : Option Addr} {c c' n' : Nat} {l l' : List Int} {lo hi : Int} (h : Vw bs k w A c l) (hc : cutx l lo hi = some l') (hs : sliced A lo.toNat hi.toNat c 1 = .slice A' n' c') : Vw bs k w A' c' l' := by
  refine ⟨num_cut h.num hc hs, cut_nn h.nn hs, fun p hp hne => ?_⟩
  have hl := cutx_len hc
  obtain ⟨h0, h1, h2, e⟩ := cutx_in hc
  unfold sliced at hs
  injection hs with s1 s2 s3
  have hne2 : l ≠ [] := by rintro rfl; simp at e; exact hne e
  obtain ⟨g, off, rfl, _, _⟩ := h.num.cells hne2
  have := h.off _ rfl hne2
  subst hp
  split at s1
  · injection s1 with s1; rw [← s1]; exact this
  · have s1 : some ((⟨g, off, none⟩ : Addr).add (lo.toNat * 1)) = some p := s1
    rw [add_flat] at s1
    injection s1 with s1; rw [← s1]; exact this

section
variable {P : Program} {w : World} {o : Oper} {ρ : Operand → Value}
theorem run_cut {T TE : Nat} {x : Operand} {lo hi : Option Operand} {A A' : Option Addr} {n c l h n' c' : Nat} (vl vh : Option Value) (ho : o.op = .slice T x lo hi none) (hx : ρ x = .slice A n c) (hl : lo.map ρ = vl) (hh : hi.map ρ = vh) (hT : P.underlying T = some (.slice TE)) (hs : ∀ w, (Go.sizeOf TE).run P w = .ok 1 w)
    (hb : (Instr.sliceBounds true n c vl vh none).run P w = .ok (l, h, c) w) (hv : sliced A l h c 1 = .slice A' n' c') : (execOp ρ o).run P w = .ok (.value (.slice A' n' c')) w := by
  subst hl; subst hh
  unfold execOp
  rw [ho]
  simp only [hx, Instr.sliceAt, Instr.slice, Sem.run_bind, run_underlying hT, Result.andThen_ok, Option.map_none]
  rw [hb]
  simp only [Result.andThen_ok, hs, Sem.run_pure]
  rw [← hv]
  rfl

theorem num_room {k : IntKind} {w : World} {A : Option Addr} {c : Nat} {l : List Int} (h : NumZ k w (.slice A l.length c) l) : l.length ≤ c := by
  obtain ⟨A', c', e, h1, _⟩ := h
  injection e with e1 e2 e3
  omega

theorem bnd_l {n c : Nat} {k : IntKind} {i : Int} (h0 : 0 ≤ i) (h1 : i ≤ (n : Int)) : (Instr.sliceBounds true n c (some (.int k i)) none none).run P w = .ok (i.toNat, n, c) w := by
  simp [Instr.sliceBounds, run_sliceBound, h0, h1]
theorem bnd_h {n c : Nat} {k : IntKind} {i : Int} (h0 : 0 ≤ i) (h1 : i ≤ (c : Int)) : (Instr.sliceBounds true n c none (some (.int k i)) none).run P w = .ok (0, i.toNat, c) w := by
  simp [Instr.sliceBounds, run_sliceBound, h0, h1]
theorem bnd_lh {n c : Nat} {k k2 : IntKind} {i j : Int} (h0 : 0 ≤ i) (h1 : i ≤ j) (h2 : j ≤ (c : Int)) : (Instr.sliceBounds true n c (some (.int k i)) (some (.int k2 j)) none).run P w = .ok (i.toNat, j.toNat, c) w := by
  have e : (j.toNat : Int) = j := Int.toNat_of_nonneg (by omega)
  simp [Instr.sliceBounds, run_sliceBound, h0, h1, h2, e, (by omega : 0 ≤ j)]
end
end Go.Proofs.YtbdhgjaoojimmaaDoor
