/-
  sfnt.Join: the face.
-/
import Derived.Test.YtlpnikolnohcaaaJnP
namespace Go.Proofs.Ytlpnikolnohcaaa
open Go Go.RowKit

theorem num_setCell {w : World} {g S : Nat} {l : List Int} (h : NumZ .u8 w (.slice (some ⟨g, 0, none⟩) S S) l) (p : Addr) (hp : p.block ≠ g) (x : Value) : NumZ .u8 (w.setCell p x) (.slice (some ⟨g, 0, none⟩) S S) l := by
  obtain ⟨A, c, e, h1, h2, hx⟩ := h
  refine ⟨A, c, e, h1, h2, fun hne => ?_⟩
  obtain ⟨g2, off, hA, hg, hc⟩ := hx hne
  injection e with e1 e2 e3
  have e4 := e1.trans hA
  injection e4 with e5
  injection e5 with e6 e7
  refine ⟨g2, off, hA, Nat.lt_of_lt_of_le hg ((Below.refl 0 w).setCell (p := p) (Nat.zero_le _) x).size, fun j hj => ?_⟩
  rw [World.cell?_setCell_other _ _ _ _ (fun e => hp ((congrArg Addr.block e).trans e6.symm))]
  exact hc j hj

set_option maxHeartbeats 4000000 in
set_option maxRecDepth 20000 in
theorem joinP_any (w : World) (vt vb : Value) (ts bs : List (List Int)) (hvt : TagsZ w vt ts) (hvb : BodsZ w vb bs) (hsz : sizeJ bs bs.length ≤ 1000000) (hlt : ts.length ≤ 1000000) :
    Calls Try.prog 13 #[vt, vb] w fun e w' => Below w.heap.size w w' ∧ ∃ r, e = .returned (.tuple #[r, .int .i64 (joinS ts bs).2]) ∧ NumZ .u8 w' r (joinS ts bs).1 ∧ (∀ n c, r = .slice none n c → n = 0 ∧ c = 0) := by
  have hmf : ∀ (fn : Fn) (first cap : Array Value) (W : World), (Instr.makeFunc fn first cap).run Try.prog W = .ok (.func fn first cap) W := fun _ _ _ _ => rfl
  have HU := Lib.hid (joined_any (w.alloc (.cells #[.int .i64 0] 25)) vt vb ts bs (hvt.below (below_alloc _ (Below.refl _ w))) (hvb.below (below_alloc _ (Below.refl _ w))) hsz hlt)
  obtain ⟨q, hq⟩ : ∃ q, q = joinS ts bs := ⟨_, rfl⟩
  rw [← hq] at HU ⊢
  clear hvt hvb hq hsz hlt
  go_enter_defers Try.func13, Try.ntmps13
  go_wp2_with fail
  refine (HU.out).mono ?_
  rintro e w1 ⟨hb, ⟨r, g, S, h0, rfl, rfl, hg, hnum⟩ | ⟨hbd, rfl⟩⟩
  · obtain ⟨hc, hz, hw⟩ := face_var hb
    have HB := Lib.hid hw
    have HC := Lib.hid hc
    have HZ := Lib.hid hz
    have HNM := Lib.hid hnum
    have HG := Lib.hid hg
    have HV := Lib.hid h0
    clear hb h0 hw hnum hg
    go_wp2_with fail
    refine leaves_cons (f := 31) (args := #[.pointer (some ⟨w.heap.size, 0, none⟩)]) (by simp) (by simp [go_sem]) ?_
    refine (idleJoin ⟨w.heap.size, 0, none⟩ 0 _ (World.cell?_setCell_same _ _ _ HC.out) (by rw [World.frozen?_setCell]; exact HZ.out)).mono ?_
    rintro e u' w2 ⟨rfl, rfl, hw2⟩
    have hcell : w2.cell? ⟨w.heap.size, 0, none⟩ = some (.int .i64 0) := by rw [hw2]; exact World.cell?_setCell_same _ _ _ (World.cell?_setCell_same _ _ _ HC.out)
    have hbel : Below w.heap.size w w2 := by rw [hw2]; exact (HB.out.setCell (p := ⟨w.heap.size, 0, none⟩) (Nat.le_refl _) _).setCell (p := ⟨w.heap.size, 0, none⟩) (Nat.le_refl _) _
    have hne : w.heap.size ≠ g := by have h := HG.out; rw [heap_plus] at h; omega
    have hown : NumZ .u8 w2 (.slice (some ⟨g, 0, none⟩) S S) q.1 := by
      rw [hw2]
      exact num_setCell (num_setCell HNM.out ⟨w.heap.size, 0, none⟩ hne _) ⟨w.heap.size, 0, none⟩ hne _
    clear hw2
    simp [Leaves, settle, results, Try.results13, go_sem, hcell]
    exact ⟨hbel, _, ⟨rfl, HV.out.symm⟩, hown, fun n c h => by cases h⟩
  · obtain ⟨hc, hz, hw⟩ := face_var hb
    have HB := Lib.hid hw
    have HV := Lib.hid hbd
    refine leaves_cons (f := 31) (args := #[.pointer (some ⟨w.heap.size, 0, none⟩)]) (by simp) (by simp [go_sem]) ?_
    refine (catchJoin ⟨w.heap.size, 0, none⟩ 0 2 [] _ hc hz).mono ?_
    rintro e u' w2 ⟨rfl, rfl, hw2⟩
    have hcell : w2.cell? ⟨w.heap.size, 0, none⟩ = some (.int .i64 2) := by rw [hw2]; exact World.cell?_setCell_same _ _ _ hc
    have hbel : Below w.heap.size w w2 := by rw [hw2]; exact HB.out.setCell (p := ⟨w.heap.size, 0, none⟩) (Nat.le_refl _) _
    clear hw2 hc hz hb hw
    simp [Leaves, settle, results, Try.results13, go_sem, hcell]
    rw [HV.out]
    exact ⟨hbel, _, ⟨rfl, rfl⟩, NumZ.nil _ _, fun n c h => by injection h with _ h1 h2; exact ⟨h1.symm, h2.symm⟩⟩
end Go.Proofs.Ytlpnikolnohcaaa
