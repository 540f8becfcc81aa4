/-
  A reader's part; its words.
-/
import Derived.Test.YtpnlopmmcclhiaaRd2
import Derived.Deep.OwnRows
namespace Go.Proofs.Ytpnlopmmcclhiaa
open Go Go.RowKit

set_option maxRecDepth 20000 in
theorem rd_together (w : World) (gr gs : Nat) (h3 : w.cell? ⟨gr, 0, none⟩ = some (.pointer (some ⟨gs, 0, none⟩))) : Calls Try.prog 27 #[.pointer (some ⟨gr, 0, none⟩)] w fun e w' => e = .returned (.pointer (some ⟨gs, 0, none⟩)) ∧ w = w' := by
  go_enter Try.func27, Try.ntmps27
  go_wp2_with fail
  go_ret
  exact ⟨rfl, rfl⟩

set_option maxHeartbeats 2000000 in
set_option maxRecDepth 20000 in
theorem rd_part (w : World) (r : Value) (l : List Int) (hr : RdZ w r l) (hl : l.length ≤ 1000000000) (f n : Nat) (h : f + n ≤ l.length) :
    Calls Try.prog 15 #[r, .int .i64 (f : Int), .int .i64 (n : Int)] w fun e w' => Below w.heap.size w w' ∧ ∃ r', e = .returned r' ∧ RdZ w' r' ((l.drop f).take n) := by
  have HR := Lib.hid hr
  obtain ⟨gr, gs, A, c, rfl, hg1, hg2, h3, h4, h5, h6, h7⟩ := hr
  have HT := Lib.hid (rd_together w gr gs h3)
  obtain ⟨w1, hw1⟩ : ∃ w1, w.alloc (.cells #[.pointer (some ⟨gs, 0, none⟩), .slice none 0 0] 50) = w1 := ⟨_, rfl⟩
  have hb1 : Below w.heap.size w w1 := by rw [← hw1]; exact (Below.refl _ w).alloc (Nat.le_refl _) _
  have HH := Lib.hid (rd_has w1 _ l (HR.out.below hb1) hl f n 1 (.inl rfl) (by omega))
  have h4' := cellsAt_below h4 hb1
  have hpl : ((l.drop f).take n).length = n := by simp; omega
  obtain ⟨N, hN⟩ : ∃ N, N = l.length := ⟨_, rfl⟩
  obtain ⟨q, hq⟩ : ∃ q, q = f + n := ⟨_, rfl⟩
  have q1 : IntKind.i64.wrap ((f : Int) + (n : Int)) = (q : Int) := by rw [IntKind.wrap_i64]; omega
  have f0 : (0 : Int) ≤ (f : Int) := Int.natCast_nonneg _
  have fq : (f : Int) ≤ (q : Int) := by omega
  have hc : l.length ≤ c ∧ c ≤ 9223372036854775807 := by
    obtain ⟨A', c', e', x1, x2, _⟩ := h6
    injection e' with e1 e2 e3
    subst e3
    exact ⟨x1, x2⟩
  have qc : (q : Int) ≤ (c : Int) := by omega
  rw [← hN] at h4'
  have hfz : w1.frozen? ⟨w.heap.size, 1, none⟩ = false := by rw [← hw1]; exact World.frozen?_alloc_new _ _ _ _
  have hc1 : w1.cell? ⟨w.heap.size, 1, none⟩ = some (.slice none 0 0) := by
    rw [← hw1, cell_of_row _ w.heap.size 1 _ _ _ (heap_alloc_new w _)]; rfl
  have hc0 : w1.cell? ⟨w.heap.size, 0, none⟩ = some (.pointer (some ⟨gs, 0, none⟩)) := by
    rw [← hw1, cell_of_row _ w.heap.size 0 _ _ _ (heap_alloc_new w _)]; rfl
  have HF : Hid (∀ X k, NumZ .u8 w (.slice X n k) ((l.drop f).take n) → (X = none → k = 0) → Below w.heap.size w (w1.setCell ⟨w.heap.size, 1, none⟩ (.slice X n k)) ∧ RdZ (w1.setCell ⟨w.heap.size, 1, none⟩ (.slice X n k)) (.pointer (some ⟨w.heap.size, 0, none⟩)) ((l.drop f).take n)) := Lib.hid (by
    intro X k hz hx
    have hb2 : Below w.heap.size w (w1.setCell ⟨w.heap.size, 1, none⟩ (.slice X n k)) := hb1.setCell (p := ⟨w.heap.size, 1, none⟩) (Nat.le_refl _) _
    have hsz : w.heap.size < (w1.setCell ⟨w.heap.size, 1, none⟩ (.slice X n k)).heap.size := by
      have h := Lib.hid (show (w1.setCell ⟨w.heap.size, 1, none⟩ (.slice X n k)).cell? ⟨w.heap.size, 1, none⟩ = some (.slice X n k) from World.cell?_setCell_same _ _ _ hc1)
      exact World.block_lt_of_cell? _ _ h.out
    have hb2s := hb2.size
    refine ⟨hb2, w.heap.size, gs, X, k, rfl, hsz, by omega, ?_, ?_, cellsAt_below h5 hb2, ?_, hx⟩
    · rw [World.cell?_setCell_other _ _ _ _ (fun e => by injection e with _ e _; cases e)]; exact hc0
    · rw [hpl]; exact World.cell?_setCell_same _ _ _ hc1
    · rw [hpl]; exact hz.below hb2)
  have h6' := h6
  have hnl : A = none → l = [] := by
    intro hA
    rcases Classical.em (l = []) with hl | hl
    · exact hl
    · obtain ⟨g, off, hA', _⟩ := h6.cells hl
      rw [hA] at hA'; cases hA'
  cases A with
  | none =>
    have hl0 := hnl rfl
    have hk0 := h7 rfl
    have hf0 : f = 0 := by rw [hl0] at h; simp at h; omega
    have hn0 : n = 0 := by rw [hl0] at h; simp at h; omega
    have HZ : Hid (NumZ .u8 w (.slice none n 0) ((l.drop f).take n)) := Lib.hid (by rw [hl0, hn0]; simp; exact NumZ.nil _ _)
    subst hk0
    subst hf0
    subst hn0
    have hN0 : N = 0 := by rw [hN, hl0]; rfl
    subst hN0
    have hq0 : q = 0 := by omega
    subst hq0
    clear hl0 hN hq q1 f0 fq hc qc h6 h6' hnl h7 h h5 hpl hl hb1 hg1 hg2 h4
    go_enter Try.func15, Try.ntmps15
    go_wp2_with fail
    refine (HT.out).mono ?_
    rintro e w2 ⟨rfl, rfl⟩
    go_wp2_with fail
    refine (HH.out).mono ?_
    rintro e w2 ⟨rfl, rfl⟩
    go_wp2_with fail
    go_ret
    have := HF.out _ _ HZ.out (fun _ => rfl)
    exact ⟨this.1, _, rfl, this.2⟩
  | some ad =>
    have HZ1 : Hid (f < c → NumZ .u8 w (.slice (some (ad.add f)) n (c - f)) ((l.drop f).take n)) := Lib.hid (fun hfc => by
      by_cases hne : l = []
      · subst hne
        have hn0 : n = 0 := by simp at h; omega
        subst hn0
        exact ⟨some (ad.add f), c - f, by simp, by simp, by omega, fun h => absurd (by simp) h⟩
      · obtain ⟨g, off, hA, hg, hcell⟩ := h6.cells hne
        injection hA with hA
        subst hA
        rw [add_flat]
        have := NumZ.piece (k := .u8) (w := w) (g := g) (off := off) (c := c) hc.1 hc.2 hg hcell f q (by omega) (by omega)
        rwa [show q - f = n by omega] at this)
    have HZ2 : Hid (c = f → NumZ .u8 w (.slice (some ad) n 0) ((l.drop f).take n)) := Lib.hid (fun hfc => by
      have hn0 : n = 0 := by omega
      subst hn0
      exact ⟨some ad, 0, by simp, by simp, by omega, fun h => absurd (by simp) h⟩)
    have HQ := Lib.hid hq
    clear hN hq hnl h6' h6 h7 h5 hpl hl hb1 hg1 hg2 h4 hc h
    go_enter Try.func15, Try.ntmps15
    go_wp2_with fail
    refine (HT.out).mono ?_
    rintro e w2 ⟨rfl, rfl⟩
    go_wp2_with fail
    refine (HH.out).mono ?_
    rintro e w2 ⟨rfl, rfl⟩
    go_wp2_with fail
    all_goals have hqn : q - f = n := by have := HQ.out; omega
    all_goals rw [hqn]
    · go_ret
      have := HF.out _ _ (HZ2.out (by first | assumption | omega)) (fun h => by cases h)
      exact ⟨this.1, _, rfl, this.2⟩
    · go_ret
      have := HF.out _ _ (HZ1.out (by omega)) (fun h => by cases h)
      exact ⟨this.1, _, rfl, this.2⟩
end Go.Proofs.Ytpnlopmmcclhiaa
