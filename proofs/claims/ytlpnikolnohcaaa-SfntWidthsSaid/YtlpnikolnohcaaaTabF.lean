/-
  sfnt.Tables: the face.
-/
import Derived.Test.YtlpnikolnohcaaaTabP
namespace Go.Proofs.Ytlpnikolnohcaaa
open Go Go.RowKit

theorem ownT_setCell {B : Nat} {w : World} {v : Value} {ts : List TabL} (h : OwnT B w v ts) (p : Addr) (hp : p.block < B) (x : Value) : OwnT B (w.setCell p x) v ts := by
  have h1 : w.ownsRow B 41 6 v ts.length (ts.flatMap cellsT) := h
  refine ⟨h1.1, ?_⟩
  rcases h1.2 with h2 | ⟨g, cap, cur, e, hB, hg, rest⟩
  · exact .inl h2
  · refine .inr ⟨g, cap, cur, e, hB, ?_, rest⟩
    rw [← hg]
    simp only [World.setCell, Array.getElem?_modify]
    rw [if_neg (by omega)]

set_option maxHeartbeats 4000000 in
set_option maxRecDepth 20000 in
theorem tablesP_any (w : World) (v : Value) (l : List Int) (hv : NumZ .u8 w v l) (hnn : ∀ n c, v = .slice none n c → n = 0 ∧ c = 0) (hA : AllB l) (hl : l.length ≤ 1000000) :
    Calls Try.prog 9 #[v] w fun e w' => Below w.heap.size w w' ∧ ∃ r, e = .returned (.tuple #[r, .int .i64 (tablesS l).2]) ∧ OwnT w.heap.size w' r (tablesS l).1 := by
  have hmf : ∀ (fn : Fn) (first cap : Array Value) (W : World), (Instr.makeFunc fn first cap).run Try.prog W = .ok (.func fn first cap) W := fun _ _ _ _ => rfl
  have HU := Lib.hid (tablesOf_any (w.alloc (.cells #[.int .i64 0] 25)) v l (hv.below (below_alloc _ (Below.refl _ w))) hnn hA hl)
  obtain ⟨q, hq⟩ : ∃ q, q = tablesS l := ⟨_, rfl⟩
  rw [← hq] at HU ⊢
  clear hv hnn hA hq hl
  go_enter_defers Try.func9, Try.ntmps9
  go_wp2_with fail
  refine (HU.out).mono ?_
  rintro e w1 ⟨hb, ⟨ts, r, hbd, rfl, how⟩ | ⟨hbd, rfl⟩⟩
  · obtain ⟨hc, hz, hw⟩ := face_var hb
    have HB := Lib.hid hw
    have HC := Lib.hid hc
    have HZ := Lib.hid hz
    have HOW := Lib.hid how
    have HV := Lib.hid hbd
    clear hb hbd hw how
    go_wp2_with fail
    refine leaves_cons (f := 22) (args := #[.pointer (some ⟨w.heap.size, 0, none⟩)]) (by simp) (by simp [go_sem]) ?_
    refine (idleTables ⟨w.heap.size, 0, none⟩ 0 _ (World.cell?_setCell_same _ _ _ HC.out) (by rw [World.frozen?_setCell]; exact HZ.out)).mono ?_
    rintro e u' w2 ⟨rfl, rfl, hw2⟩
    have hcell : w2.cell? ⟨w.heap.size, 0, none⟩ = some (.int .i64 0) := by rw [hw2]; exact World.cell?_setCell_same _ _ _ (World.cell?_setCell_same _ _ _ HC.out)
    have hbel : Below w.heap.size w w2 := by rw [hw2]; exact (HB.out.setCell (p := ⟨w.heap.size, 0, none⟩) (Nat.le_refl _) _).setCell (p := ⟨w.heap.size, 0, none⟩) (Nat.le_refl _) _
    have hown : OwnT w.heap.size w2 r ts := by
      rw [hw2]
      exact (ownT_setCell (ownT_setCell HOW.out ⟨w.heap.size, 0, none⟩ (heap_more _ _) _) ⟨w.heap.size, 0, none⟩ (heap_more _ _) _).base (Nat.le_of_lt (heap_more _ _))
    clear hw2
    simp [Leaves, settle, results, Try.results9, go_sem, hcell]
    rw [HV.out]
    exact ⟨hbel, _, ⟨rfl, rfl⟩, hown⟩
  · obtain ⟨hc, hz, hw⟩ := face_var hb
    have HB := Lib.hid hw
    have HV := Lib.hid hbd
    refine leaves_cons (f := 22) (args := #[.pointer (some ⟨w.heap.size, 0, none⟩)]) (by simp) (by simp [go_sem]) ?_
    refine (catchTables ⟨w.heap.size, 0, none⟩ 0 50 [] _ hc hz).mono ?_
    rintro e u' w2 ⟨rfl, rfl, hw2⟩
    have hcell : w2.cell? ⟨w.heap.size, 0, none⟩ = some (.int .i64 50) := by rw [hw2]; exact World.cell?_setCell_same _ _ _ hc
    have hbel : Below w.heap.size w w2 := by rw [hw2]; exact HB.out.setCell (p := ⟨w.heap.size, 0, none⟩) (Nat.le_refl _) _
    clear hw2 hc hz hb hw
    simp [Leaves, settle, results, Try.results9, go_sem, hcell]
    rw [HV.out]
    exact ⟨hbel, _, ⟨rfl, rfl⟩, OwnT.nil _ _⟩
end Go.Proofs.Ytlpnikolnohcaaa
