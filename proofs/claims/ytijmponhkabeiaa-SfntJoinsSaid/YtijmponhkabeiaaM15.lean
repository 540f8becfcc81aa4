/-
  Several texts in one: JnF, TabF, Wk5, Tg.
-/
import Derived.Test.YtijmponhkabeiaaJnP
import Derived.Test.YtijmponhkabeiaaTabP
import Derived.Test.YtijmponhkabeiaaM12
import Derived.Test.YtijmponhkabeiaaM13
import Derived.Laws.StructEq
namespace Go.Proofs.Ytijmponhkabeiaa
open Go Go.RowKit

theorem num_setCell {w : World} {g S : Nat} {l : List Int} (h : NumZ .u8 w (.slice (some ⟨g, 0, none⟩) S S) l) (p : Addr) (hp : p.block ≠ g) (x : Value) : NumZ .u8 (w.setCell p x) (.slice (some ⟨g, 0, none⟩) S S) l := by
  obtain ⟨A, c, e, h1, h2, hx⟩ := h
  refine ⟨A, c, e, h1, h2, fun hne => ?_⟩
  obtain ⟨g2, off, hA, hg, hc⟩ := hx hne
  injection e with e1 e2 e3
  have e4 := e1.trans hA
  injection e4 with e5
  injection e5 with e6 e7
  refine ⟨g2, off, hA, Nat.lt_of_lt_of_le hg ((Below.refl 0 w).setCell (p := p) (Nat.zero_le _) x).size, fun j hj => ?_⟩
  rw [World.cell?_setCell_other _ _ _ _ (fun e => hp ((congrArg Addr.block e).trans e6.symm))]
  exact hc j hj

set_option maxHeartbeats 4000000 in
set_option maxRecDepth 20000 in
theorem joinP_own (w : World) (vt vb : Value) (ts bs : List (List Int)) (hvt : TagsZ w vt ts) (hvb : BodsZ w vb bs) (hsz : sizeJ bs bs.length ≤ 1000000) (hlt : ts.length ≤ 1000000) :
    Calls Try.prog 13 #[vt, vb] w fun e w' => Below w.heap.size w w' ∧ ∃ r, e = .returned (.tuple #[r, .int .i64 (joinS ts bs).2]) ∧ NumZ .u8 w' r (joinS ts bs).1 ∧ (∀ n c, r = .slice none n c → n = 0 ∧ c = 0) ∧ (∀ g off n c, r = .slice (some ⟨g, off, none⟩) n c → w.heap.size ≤ g) := by
  have hmf : ∀ (fn : Fn) (first cap : Array Value) (W : World), (Instr.makeFunc fn first cap).run Try.prog W = .ok (.func fn first cap) W := fun _ _ _ _ => rfl
  have HU := Lib.hid (joined_any (w.alloc (.cells #[.int .i64 0] 25)) vt vb ts bs (hvt.below (below_alloc _ (Below.refl _ w))) (hvb.below (below_alloc _ (Below.refl _ w))) hsz hlt)
  obtain ⟨q, hq⟩ : ∃ q, q = joinS ts bs := ⟨_, rfl⟩
  rw [← hq] at HU ⊢
  clear hvt hvb hq hsz hlt
  go_enter_defers Try.func13, Try.ntmps13
  go_wp2_with fail
  refine (HU.out).mono ?_
  rintro e w1 ⟨hb, ⟨r, g, S, h0, rfl, rfl, hg, hnum⟩ | ⟨hbd, rfl⟩⟩
  · obtain ⟨hc, hz, hw⟩ := face_var hb
    have HB := Lib.hid hw
    have HC := Lib.hid hc
    have HZ := Lib.hid hz
    have HNM := Lib.hid hnum
    have HG := Lib.hid hg
    have HV := Lib.hid h0
    clear hb h0 hw hnum hg
    go_wp2_with fail
    refine leaves_cons (f := 31) (args := #[.pointer (some ⟨w.heap.size, 0, none⟩)]) (by simp) (by simp [go_sem]) ?_
    refine (idleJoin ⟨w.heap.size, 0, none⟩ 0 _ (World.cell?_setCell_same _ _ _ HC.out) (by rw [World.frozen?_setCell]; exact HZ.out)).mono ?_
    rintro e u' w2 ⟨rfl, rfl, hw2⟩
    have hcell : w2.cell? ⟨w.heap.size, 0, none⟩ = some (.int .i64 0) := by rw [hw2]; exact World.cell?_setCell_same _ _ _ (World.cell?_setCell_same _ _ _ HC.out)
    have hbel : Below w.heap.size w w2 := by rw [hw2]; exact (HB.out.setCell (p := ⟨w.heap.size, 0, none⟩) (Nat.le_refl _) _).setCell (p := ⟨w.heap.size, 0, none⟩) (Nat.le_refl _) _
    have hne : w.heap.size ≠ g := by have h := HG.out; rw [heap_plus] at h; omega
    have hown : NumZ .u8 w2 (.slice (some ⟨g, 0, none⟩) S S) q.1 := by
      rw [hw2]
      exact num_setCell (num_setCell HNM.out ⟨w.heap.size, 0, none⟩ hne _) ⟨w.heap.size, 0, none⟩ hne _
    clear hw2
    simp [Leaves, settle, results, Try.results13, go_sem, hcell]
    exact ⟨hbel, _, ⟨rfl, HV.out.symm⟩, hown, (fun n c h => by cases h), fun g' off n c h => by injection h with h1; injection h1 with h1; injection h1 with h1; rw [← h1]; have h := HG.out; rw [heap_plus] at h; omega⟩
  · obtain ⟨hc, hz, hw⟩ := face_var hb
    have HB := Lib.hid hw
    have HV := Lib.hid hbd
    refine leaves_cons (f := 31) (args := #[.pointer (some ⟨w.heap.size, 0, none⟩)]) (by simp) (by simp [go_sem]) ?_
    refine (catchJoin ⟨w.heap.size, 0, none⟩ 0 2 [] _ hc hz).mono ?_
    rintro e u' w2 ⟨rfl, rfl, hw2⟩
    have hcell : w2.cell? ⟨w.heap.size, 0, none⟩ = some (.int .i64 2) := by rw [hw2]; exact World.cell?_setCell_same _ _ _ hc
    have hbel : Below w.heap.size w w2 := by rw [hw2]; exact HB.out.setCell (p := ⟨w.heap.size, 0, none⟩) (Nat.le_refl _) _
    clear hw2 hc hz hb hw
    simp [Leaves, settle, results, Try.results13, go_sem, hcell]
    rw [HV.out]
    exact ⟨hbel, _, ⟨rfl, rfl⟩, NumZ.nil _ _, (fun n c h => by injection h with _ h1 h2; exact ⟨h1.symm, h2.symm⟩), fun g' off n c h => by cases h⟩

theorem joinP_any (w : World) (vt vb : Value) (ts bs : List (List Int)) (hvt : TagsZ w vt ts) (hvb : BodsZ w vb bs) (hsz : sizeJ bs bs.length ≤ 1000000) (hlt : ts.length ≤ 1000000) :
    Calls Try.prog 13 #[vt, vb] w fun e w' => Below w.heap.size w w' ∧ ∃ r, e = .returned (.tuple #[r, .int .i64 (joinS ts bs).2]) ∧ NumZ .u8 w' r (joinS ts bs).1 ∧ (∀ n c, r = .slice none n c → n = 0 ∧ c = 0) :=
  (joinP_own w vt vb ts bs hvt hvb hsz hlt).mono fun _ _ ⟨hb, r, h1, h2, h3, _⟩ => ⟨hb, r, h1, h2, h3⟩
end Go.Proofs.Ytijmponhkabeiaa

namespace Go.Proofs.Ytijmponhkabeiaa
open Go Go.RowKit

theorem ownT_setCell {B : Nat} {w : World} {v : Value} {ts : List TabL} (h : OwnT B w v ts) (p : Addr) (hp : p.block < B) (x : Value) : OwnT B (w.setCell p x) v ts := by
  have h1 : w.ownsRow B 41 6 v ts.length (ts.flatMap cellsT) := h
  refine ⟨h1.1, ?_⟩
  rcases h1.2 with h2 | ⟨g, cap, cur, e, hB, hg, rest⟩
  · exact .inl h2
  · refine .inr ⟨g, cap, cur, e, hB, ?_, rest⟩
    rw [← hg]
    simp only [World.setCell, Array.getElem?_modify]
    rw [if_neg (by omega)]

set_option maxHeartbeats 4000000 in
set_option maxRecDepth 20000 in
theorem tablesP_any (w : World) (v : Value) (l : List Int) (hv : NumZ .u8 w v l) (hnn : ∀ n c, v = .slice none n c → n = 0 ∧ c = 0) (hA : AllB l) (hl : l.length ≤ 1000000) :
    Calls Try.prog 9 #[v] w fun e w' => Below w.heap.size w w' ∧ ∃ r, e = .returned (.tuple #[r, .int .i64 (tablesS l).2]) ∧ OwnT w.heap.size w' r (tablesS l).1 := by
  have hmf : ∀ (fn : Fn) (first cap : Array Value) (W : World), (Instr.makeFunc fn first cap).run Try.prog W = .ok (.func fn first cap) W := fun _ _ _ _ => rfl
  have HU := Lib.hid (tablesOf_any (w.alloc (.cells #[.int .i64 0] 25)) v l (hv.below (below_alloc _ (Below.refl _ w))) hnn hA hl)
  obtain ⟨q, hq⟩ : ∃ q, q = tablesS l := ⟨_, rfl⟩
  rw [← hq] at HU ⊢
  clear hv hnn hA hq hl
  go_enter_defers Try.func9, Try.ntmps9
  go_wp2_with fail
  refine (HU.out).mono ?_
  rintro e w1 ⟨hb, ⟨ts, r, hbd, rfl, how⟩ | ⟨hbd, rfl⟩⟩
  · obtain ⟨hc, hz, hw⟩ := face_var hb
    have HB := Lib.hid hw
    have HC := Lib.hid hc
    have HZ := Lib.hid hz
    have HOW := Lib.hid how
    have HV := Lib.hid hbd
    clear hb hbd hw how
    go_wp2_with fail
    refine leaves_cons (f := 22) (args := #[.pointer (some ⟨w.heap.size, 0, none⟩)]) (by simp) (by simp [go_sem]) ?_
    refine (idleTables ⟨w.heap.size, 0, none⟩ 0 _ (World.cell?_setCell_same _ _ _ HC.out) (by rw [World.frozen?_setCell]; exact HZ.out)).mono ?_
    rintro e u' w2 ⟨rfl, rfl, hw2⟩
    have hcell : w2.cell? ⟨w.heap.size, 0, none⟩ = some (.int .i64 0) := by rw [hw2]; exact World.cell?_setCell_same _ _ _ (World.cell?_setCell_same _ _ _ HC.out)
    have hbel : Below w.heap.size w w2 := by rw [hw2]; exact (HB.out.setCell (p := ⟨w.heap.size, 0, none⟩) (Nat.le_refl _) _).setCell (p := ⟨w.heap.size, 0, none⟩) (Nat.le_refl _) _
    have hown : OwnT w.heap.size w2 r ts := by
      rw [hw2]
      exact (ownT_setCell (ownT_setCell HOW.out ⟨w.heap.size, 0, none⟩ (heap_more _ _) _) ⟨w.heap.size, 0, none⟩ (heap_more _ _) _).base (Nat.le_of_lt (heap_more _ _))
    clear hw2
    simp [Leaves, settle, results, Try.results9, go_sem, hcell]
    rw [HV.out]
    exact ⟨hbel, _, ⟨rfl, rfl⟩, hown⟩
  · obtain ⟨hc, hz, hw⟩ := face_var hb
    have HB := Lib.hid hw
    have HV := Lib.hid hbd
    refine leaves_cons (f := 22) (args := #[.pointer (some ⟨w.heap.size, 0, none⟩)]) (by simp) (by simp [go_sem]) ?_
    refine (catchTables ⟨w.heap.size, 0, none⟩ 0 50 [] _ hc hz).mono ?_
    rintro e u' w2 ⟨rfl, rfl, hw2⟩
    have hcell : w2.cell? ⟨w.heap.size, 0, none⟩ = some (.int .i64 50) := by rw [hw2]; exact World.cell?_setCell_same _ _ _ hc
    have hbel : Below w.heap.size w w2 := by rw [hw2]; exact HB.out.setCell (p := ⟨w.heap.size, 0, none⟩) (Nat.le_refl _) _
    clear hw2 hc hz hb hw
    simp [Leaves, settle, results, Try.results9, go_sem, hcell]
    rw [HV.out]
    exact ⟨hbel, _, ⟨rfl, rfl⟩, OwnT.nil _ _⟩
end Go.Proofs.Ytijmponhkabeiaa

namespace Go.Proofs.Ytijmponhkabeiaa
open Go Go.RowKit

/-- the font of the example -/
def exB : List Int := [0, 1, 0, 0, 0, 1, 0, 16, 0, 0, 0, 0, 97, 98, 49, 50, 1, 2, 3, 0, 0, 0, 0, 28, 0, 0, 0, 3, 1, 2, 3, 0]

theorem ex_join : joinS [[97, 98, 49, 50]] [[1, 2, 3]] = (exB, 0) := by kernel_rfl
theorem ex_tabs : tablesS exB = ([([97, 98, 49, 50], 28, 3)], 0) := by kernel_rfl

set_option maxHeartbeats 8000000 in
set_option maxRecDepth 20000 in
theorem works5_any (w : World) : Calls Try.prog 8 #[] w fun e w' => e = .returned (.bool true) ∧ Below w.heap.size w w' := by
  have HJ : Hid (∀ wx vt vb, TagsZ wx vt [[97, 98, 49, 50]] → BodsZ wx vb [[1, 2, 3]] → Calls Try.prog 13 #[vt, vb] wx fun e w' => Below wx.heap.size wx w' ∧ ∃ r, e = .returned (.tuple #[r, .int .i64 0]) ∧ NumZ .u8 w' r exB ∧ (∀ n c, r = .slice none n c → n = 0 ∧ c = 0)) := Lib.hid (fun wx vt vb h1 h2 => by
    have h := joinP_any wx vt vb _ _ h1 h2 (by decide) (by decide)
    rw [ex_join] at h
    exact h)
  have hexb : AllB exB := fun x hx => by simp [exB] at hx; omega
  have HT : Hid (∀ wx v, NumZ .u8 wx v exB → (∀ n c, v = .slice none n c → n = 0 ∧ c = 0) → Calls Try.prog 9 #[v] wx fun e w' => Below wx.heap.size wx w' ∧ ∃ r, e = .returned (.tuple #[r, .int .i64 0]) ∧ OwnT wx.heap.size w' r [([97, 98, 49, 50], 28, 3)]) := Lib.hid (fun wx v h1 h2 => by
    have h := tablesP_any wx v exB h1 h2 hexb (by decide)
    rw [ex_tabs] at h
    exact h)
  have HSB : Hid (∀ w a b, NumZ .u8 w a exB → NumZ .u8 w b exB → Calls Try.prog 12 #[a, b] w fun e w' => e = .returned (.bool true) ∧ w = w') := Lib.hid (fun w a b ha hb => sameB_any _ a b w ha hb)
  obtain ⟨w1, hw1⟩ : ∃ w1, w.alloc (.cells #[.int .u8 97, .int .u8 98, .int .u8 49, .int .u8 50] 39) = w1 := ⟨_, rfl⟩
  obtain ⟨w2, hw2⟩ : ∃ w2, w1.alloc (.cells #[.int .u8 1, .int .u8 2, .int .u8 3] 5) = w2 := ⟨_, rfl⟩
  obtain ⟨w3, hw3⟩ : ∃ w3, w2.alloc (.cells #[.slice (some ⟨w1.heap.size, 0, none⟩) 3 3] 22) = w3 := ⟨_, rfl⟩
  have hs1 : w1.heap.size = w.heap.size + 1 := by rw [← hw1, heap_plus]
  have hs2 : w2.heap.size = w.heap.size + 2 := by rw [← hw2, heap_plus, hs1]
  have hs3 : w3.heap.size = w.heap.size + 3 := by rw [← hw3, heap_plus, hs2]
  have HB3 : Hid (Below w.heap.size w w3) := Lib.hid (by rw [← hw3, ← hw2, ← hw1]; exact below_alloc _ (below_alloc _ (below_alloc _ (Below.refl _ w))))
  have HTZ : Hid (TagsZ w3 (.slice (some ⟨w.heap.size, 0, none⟩) 1 1) [[97, 98, 49, 50]]) := Lib.hid (by
    refine ⟨_, _, rfl, Nat.le_refl _, by decide, fun t ht => ?_, fun _ => ⟨w.heap.size, 0, rfl, by omega, fun i j hi hj => ?_⟩⟩
    · obtain rfl := List.mem_singleton.1 ht
      exact ⟨rfl, fun x hx => by simp at hx; omega⟩
    · obtain rfl : i = 0 := by simpa using hi
      rw [← hw3, ← hw2]
      refine cells_alloc _ (cells_alloc _ ?_)
      rw [← hw1, cell_of_row _ w.heap.size _ _ _ _ (heap_alloc_new w _)]
      match j, hj with
      | 0, _ => rfl
      | 1, _ => rfl
      | 2, _ => rfl
      | 3, _ => rfl)
  have HBZ : Hid (BodsZ w3 (.slice (some ⟨w2.heap.size, 0, none⟩) 1 1) [[1, 2, 3]]) := Lib.hid (by
    refine ⟨_, _, rfl, Nat.le_refl _, by decide, fun t ht => ?_, fun _ => ⟨w2.heap.size, 0, rfl, by omega, fun i hi => ?_⟩⟩
    · obtain rfl := List.mem_singleton.1 ht
      exact fun x hx => by simp at hx; omega
    · obtain rfl : i = 0 := by simpa using hi
      refine ⟨.slice (some ⟨w1.heap.size, 0, none⟩) 3 3, ?_, ?_, fun n c h => by cases h⟩
      · rw [← hw3, cell_of_row _ w2.heap.size _ _ _ _ (heap_alloc_new w2 _)]; rfl
      · have h := num_new .u8 w1 [1, 2, 3] 5 (by decide)
        have e : w1.alloc (.cells ([1, 2, 3].map fun d : Int => Value.int .u8 d).toArray 5) = w2 := hw2
        rw [e] at h
        have h2 := h.alloc (.cells #[.slice (some ⟨w1.heap.size, 0, none⟩) 3 3] 22)
        rw [hw3] at h2
        exact h2)
  clear hexb hs1 hs2 hs3
  go_enter Try.func8, Try.ntmps8
  go_wp2_with fail
  refine (HJ.out _ _ _ HTZ.out HBZ.out).mono ?_
  rintro e w4 ⟨hb4, rb, rfl, hnz, hnn⟩
  have HB4 := Lib.hid (HB3.out.trans (hb4.mono HB3.out.size))
  have HNZ := Lib.hid hnz
  have HNN := Lib.hid hnn
  clear hb4 hnz hnn hw1 hw2 hw3
  go_wp2_with fail
  refine (HT.out _ _ HNZ.out HNN.out).mono ?_
  rintro e w5 ⟨hb5, rt, rfl, how⟩
  have HB5 := Lib.hid (HB4.out.trans (hb5.mono HB4.out.size))
  have HNZ5 := Lib.hid (HNZ.out.below hb5)
  have HOW := Lib.hid how
  obtain ⟨AT, cT, hrt, _, _, hcs⟩ := how.read (fun t ht => by obtain rfl := List.mem_singleton.1 ht; rfl)
  obtain ⟨gT, rfl, hgT, hcs⟩ := hcs (by simp)
  subst hrt
  have k4 := hcs 0 4 (by decide) (by decide)
  have k5 := hcs 0 5 (by decide) (by decide)
  simp only [Nat.mul_zero, Nat.zero_add, List.getElem_cons_zero, cellsT] at k4 k5
  have k4' : w5.cell? ⟨gT, 4, none⟩ = some (.int .i64 28) := k4
  have k5' : w5.cell? ⟨gT, 5, none⟩ = some (.int .i64 3) := k5
  clear hb5 k4 k5 hcs how
  go_wp2_with fail
  refine (HSB.out _ _ _ (HNZ5.out.alloc _) (num_new .u8 w5 exB _ (by decide))).mono ?_
  rintro e w6 ⟨rfl, rfl⟩
  have k4 := cellsAt_below k4' (below_alloc (.cells (exB.map fun d : Int => Value.int .u8 d).toArray 5) (Below.refl w5.heap.size w5))
  have k5 := cellsAt_below k5' (below_alloc (.cells (exB.map fun d : Int => Value.int .u8 d).toArray 5) (Below.refl w5.heap.size w5))
  have HBF := Lib.hid (HB5.out.alloc HB5.out.size (.cells (exB.map fun d : Int => Value.int .u8 d).toArray 5))
  clear k4' k5' hgT
  go_wp2_with fail
  go_ret
  exact ⟨rfl, HBF.out⟩
end Go.Proofs.Ytijmponhkabeiaa

namespace Go.Proofs.Ytijmponhkabeiaa
open Go Go.RowKit
set_option linter.unusedVariables false

abbrev Tg := Int × Int × Int × Int
def tagL (t : Tg) : List Int := [t.1, t.2.1, t.2.2.1, t.2.2.2]
def inB (t : Tg) : Prop := (0 ≤ t.1 ∧ t.1 ≤ 255) ∧ (0 ≤ t.2.1 ∧ t.2.1 ≤ 255) ∧ (0 ≤ t.2.2.1 ∧ t.2.2.1 ≤ 255) ∧ (0 ≤ t.2.2.2 ∧ t.2.2.2 ≤ 255)
instance (t : Tg) : Decidable (inB t) := by unfold inB; infer_instance
def inBs (l : List Int) : Prop := ∀ x ∈ l, 0 ≤ x ∧ x ≤ 255
instance (l : List Int) : Decidable (inBs l) := by unfold inBs; infer_instance

theorem tagL_b {t : Tg} (h : inB t) : AllB (tagL t) := by
  intro x hx
  obtain ⟨h1, h2, h3, h4⟩ := h
  simp [tagL] at hx
  rcases hx with rfl | rfl | rfl | rfl <;> assumption
theorem tagL_len (t : Tg) : (tagL t).length = 4 := rfl

/-- two names, compared -/
def eqTag (x y : Tg) : Option Bool := if inB x ∧ inB y then some (decide (tagL x = tagL y)) else none

section
variable {w : World} {ρ : Operand → Value} {o : Oper}
set_option maxRecDepth 100000 in
theorem run_eqin {x y : Tg} {r : Bool} (hr : eqTag x y = some r) :
    (Op.equalIn 10000 39 (.agg #[.int .u8 x.1, .int .u8 x.2.1, .int .u8 x.2.2.1, .int .u8 x.2.2.2]) (.agg #[.int .u8 y.1, .int .u8 y.2.1, .int .u8 y.2.2.1, .int .u8 y.2.2.2])).run Try.prog w = .ok r w := by
  unfold eqTag at hr
  split at hr
  · rename_i h
    have h1 := eq_tags w (tagL x) (tagL y) (tagL_b h.1) (tagL_b h.2) rfl rfl
    rw [show tagV (tagL x) = .agg #[.int .u8 x.1, .int .u8 x.2.1, .int .u8 x.2.2.1, .int .u8 x.2.2.2] from rfl, show tagV (tagL y) = .agg #[.int .u8 y.1, .int .u8 y.2.1, .int .u8 y.2.2.1, .int .u8 y.2.2.2] from rfl, run_eql_struct, Option.some.inj hr] at h1
    cases hq : (Op.equalIn 10000 39 (.agg #[.int .u8 x.1, .int .u8 x.2.1, .int .u8 x.2.2.1, .int .u8 x.2.2.2]) (.agg #[.int .u8 y.1, .int .u8 y.2.1, .int .u8 y.2.2.1, .int .u8 y.2.2.2])).run Try.prog w with
    | ok b w' =>
      rw [hq] at h1
      simp only [Result.andThen_ok] at h1
      injection h1 with h2 h3
      injection h2 with h4
      rw [h4, h3]
    | halt z w' => rw [hq] at h1; simp [Result.andThen] at h1
  · cases hr

set_option maxRecDepth 100000 in
theorem run_eqTag {T' : Nat} {a b : Operand} {x y : Tg} {r : Bool} (ho : o.op = .binOp .eql 39 a b T') (hx : ρ a = .agg #[.int .u8 x.1, .int .u8 x.2.1, .int .u8 x.2.2.1, .int .u8 x.2.2.2]) (hy : ρ b = .agg #[.int .u8 y.1, .int .u8 y.2.1, .int .u8 y.2.2.1, .int .u8 y.2.2.2])
    (hr : eqTag x y = some r) : (execOp ρ o).run Try.prog w = .ok (.value (.bool r)) w := by
  have hg : Try.prog.eqGuardType Try.prog.depth 39 = false := by kernel_rfl
  unfold execOp
  rw [ho]
  simp only [hx, hy, Sem.run_bind, run_eqGuard_agg w _ _ _ _ _ _ hg, Result.andThen_ok, run_eql_struct, run_eqin hr, Sem.run_pure]

set_option maxRecDepth 100000 in
theorem run_neTag {T' : Nat} {a b : Operand} {x y : Tg} {r : Bool} (ho : o.op = .binOp .neq 39 a b T') (hx : ρ a = .agg #[.int .u8 x.1, .int .u8 x.2.1, .int .u8 x.2.2.1, .int .u8 x.2.2.2]) (hy : ρ b = .agg #[.int .u8 y.1, .int .u8 y.2.1, .int .u8 y.2.2.1, .int .u8 y.2.2.2])
    (hr : eqTag x y = some r) : (execOp ρ o).run Try.prog w = .ok (.value (.bool (!r))) w := by
  have hg : Try.prog.eqGuardType Try.prog.depth 39 = false := by kernel_rfl
  unfold execOp
  rw [ho]
  simp only [hx, hy, Sem.run_bind, run_eqGuard_agg w _ _ _ _ _ _ hg, Result.andThen_ok, run_neq_struct, run_eqin hr, Sem.run_pure]
end

def neTag (x y : Tg) : Option Bool := (eqTag x y).map (!·)
theorem run_neTag' {w : World} {ρ : Operand → Value} {o : Oper} {T' : Nat} {a b : Operand} {x y : Tg} {r : Bool} (ho : o.op = .binOp .neq 39 a b T') (hx : ρ a = .agg #[.int .u8 x.1, .int .u8 x.2.1, .int .u8 x.2.2.1, .int .u8 x.2.2.2]) (hy : ρ b = .agg #[.int .u8 y.1, .int .u8 y.2.1, .int .u8 y.2.2.1, .int .u8 y.2.2.2])
    (hr : neTag x y = some r) : (execOp ρ o).run Try.prog w = .ok (.value (.bool r)) w := by
  unfold neTag at hr
  obtain ⟨r0, h0, h1⟩ := Option.map_eq_some_iff.1 hr
  rw [← h1]
  exact run_neTag ho hx hy h0

/-! ### the document's functions -/

def hIsHead (_N : Nat) (p0_0 p0_1 p0_2 p0_3 : Int) : Option Bool := if inB (p0_0, p0_1, p0_2, p0_3) then some (decide (tagL (p0_0, p0_1, p0_2, p0_3) = headT)) else none
def hIsHead_R (r : Bool) (w0 : World) (v : Value) (w : World) : Prop := v = .bool r ∧ St [] w0 w []
theorem hIsHead_ok (N : Nat) (p0_0 p0_1 p0_2 p0_3 : Int) (r : Bool) (hF : hIsHead N p0_0 p0_1 p0_2 p0_3 = some r) (w0 : World) :
    Calls Try.prog 33 #[.agg #[.int .u8 p0_0, .int .u8 p0_1, .int .u8 p0_2, .int .u8 p0_3]] w0 fun e w => ∃ v, e = .returned v ∧ hIsHead_R r w0 v w := by
  unfold hIsHead at hF
  split at hF
  · rename_i h
    obtain rfl := Option.some.inj hF
    refine (isHead_any w0 (tagL (p0_0, p0_1, p0_2, p0_3)) (tagL_b h) rfl).mono ?_
    rintro e w ⟨rfl, hb⟩
    exact ⟨_, rfl, rfl, (St.start w0).stay hb⟩
  · cases hF

def hLess (_N : Nat) (p0_0 p0_1 p0_2 p0_3 p1_0 p1_1 p1_2 p1_3 : Int) : Option Bool := some (lessL (tagL (p0_0, p0_1, p0_2, p0_3)) (tagL (p1_0, p1_1, p1_2, p1_3)))
def hLess_R (r : Bool) (w0 : World) (v : Value) (w : World) : Prop := v = .bool r ∧ St [] w0 w []
theorem hLess_ok (N : Nat) (p0_0 p0_1 p0_2 p0_3 p1_0 p1_1 p1_2 p1_3 : Int) (r : Bool) (hF : hLess N p0_0 p0_1 p0_2 p0_3 p1_0 p1_1 p1_2 p1_3 = some r) (w0 : World) :
    Calls Try.prog 30 #[.agg #[.int .u8 p0_0, .int .u8 p0_1, .int .u8 p0_2, .int .u8 p0_3], .agg #[.int .u8 p1_0, .int .u8 p1_1, .int .u8 p1_2, .int .u8 p1_3]] w0 fun e w => ∃ v, e = .returned v ∧ hLess_R r w0 v w := by
  obtain rfl := Option.some.inj hF
  refine (less_any w0 (tagL (p0_0, p0_1, p0_2, p0_3)) (tagL (p1_0, p1_1, p1_2, p1_3)) rfl rfl).mono ?_
  rintro e w ⟨rfl, hb⟩
  exact ⟨_, rfl, rfl, (St.start w0).stay hb⟩

theorem vw_nn {A : Option Addr} {c : Nat} {l : List Int} {w : World} (hv : Vw [] .u8 w A c l) : ∀ n d, Value.slice A l.length c = .slice none n d → n = 0 ∧ d = 0 := by
  intro n d h
  injection h with h1 h2 h3
  subst h1
  exact ⟨by rw [← h2, show l = [] from List.length_eq_zero_iff.1 (num_nil hv.num rfl)]; rfl, by rw [← h3]; exact hv.nn rfl⟩

def hTsum (_N : Nat) (p0_0 p0_1 p0_2 p0_3 : Int) (p1 : List Int) : Option Int := if inB (p0_0, p0_1, p0_2, p0_3) ∧ inBs p1 ∧ p1.length ≤ 1000000 then some (sumTag (tagL (p0_0, p0_1, p0_2, p0_3)) p1) else none
def hTsum_R (r : Int) (w0 : World) (v : Value) (w : World) : Prop := v = .int .u32 r ∧ St [] w0 w []
theorem hTsum_ok (N : Nat) (p0_0 p0_1 p0_2 p0_3 : Int) (p1 : List Int) (A1 : Option Addr) (c1 : Nat) (r : Int) (hF : hTsum N p0_0 p0_1 p0_2 p0_3 p1 = some r) (w0 : World) (hv1 : Vw [] .u8 w0 A1 c1 p1) :
    Calls Try.prog 29 #[.agg #[.int .u8 p0_0, .int .u8 p0_1, .int .u8 p0_2, .int .u8 p0_3], .slice A1 p1.length c1] w0 fun e w => ∃ v, e = .returned v ∧ hTsum_R r w0 v w := by
  unfold hTsum at hF
  split at hF
  · rename_i h
    obtain rfl := Option.some.inj hF
    refine (sumT_any w0 (tagL (p0_0, p0_1, p0_2, p0_3)) (tagL_b h.1) rfl _ p1 hv1.num (vw_nn hv1) h.2.1 h.2.2).mono ?_
    rintro e w ⟨rfl, hb⟩
    exact ⟨_, rfl, rfl, (St.start w0).stay hb⟩
  · cases hF

def hSum (_N : Nat) (p0 : List Int) : Option Int := if inBs p0 ∧ p0.length ≤ 1000000 then some (sumS p0) else none
def hSum_R (r : Int) (w0 : World) (v : Value) (w : World) : Prop := v = .int .u32 r ∧ St [] w0 w []
theorem hSum_ok (N : Nat) (p0 : List Int) (A0 : Option Addr) (c0 : Nat) (r : Int) (hF : hSum N p0 = some r) (w0 : World) (hv0 : Vw [] .u8 w0 A0 c0 p0) :
    Calls Try.prog 36 #[.slice A0 p0.length c0] w0 fun e w => ∃ v, e = .returned v ∧ hSum_R r w0 v w := by
  unfold hSum at hF
  split at hF
  · rename_i h
    obtain rfl := Option.some.inj hF
    refine (refSum_any w0 _ p0 hv0.num h.1 h.2).mono ?_
    rintro e w ⟨rfl, hb⟩
    exact ⟨_, rfl, rfl, (St.start w0).stay hb⟩
  · cases hF

/-- a row of bytes of a call's own -/
theorem own_st {w0 w : World} {B : Nat} {r : Value} {l : List Int} (hb : Below w0.heap.size w0 w) (hB : w0.heap.size ≤ B) (h : OwnB B w r l) : ∃ A c, r = .slice A l.length c ∧ St [] w0 w [rowE .u8 5 A c l] := by
  have h1 : w.ownsRow B 5 1 r l.length (l.map fun d : Int => Value.int .u8 d) := h
  rcases h1.2 with ⟨rfl, h0⟩ | ⟨g, cap, cur, rfl, hBg, hg, rest⟩
  · refine ⟨none, 0, by rw [h0], ?_⟩
    refine (St.start w0).add hb (rowE .u8 5 none 0 l) ⟨h1.1, .inl ⟨by rw [h0], h0⟩⟩ (fun k hk => by simp [rowE, rowG, Value.ownBlock] at hk)
  · refine ⟨_, cap, rfl, ?_⟩
    refine (St.start w0).add hb (rowE .u8 5 (some ⟨g, 0, none⟩) cap l) ⟨h1.1, .inr ⟨g, cap, cur, rfl, Nat.zero_le _, hg, rest⟩⟩ (fun k hk => ?_)
    simp [rowE, rowG, Value.ownBlock] at hk
    subst hk
    exact ⟨by omega, own_row_lt hg⟩

def hHead (_N : Nat) (p0 : Int) : Option (List Int) := if 1 ≤ p0 ∧ p0 ≤ 64 then some (headL p0.toNat) else none
def hHead_R (r : List Int) (w0 : World) (v : Value) (w : World) : Prop := ∃ (A0' : Option Addr) (c0' : Nat), v = .slice A0' r.length c0' ∧ St [] w0 w [rowE .u8 5 A0' c0' r]
theorem hHead_ok (N : Nat) (p0 : Int) (r : List Int) (hF : hHead N p0 = some r) (w0 : World) :
    Calls Try.prog 26 #[.int .i64 p0] w0 fun e w => ∃ v, e = .returned v ∧ hHead_R r w0 v w := by
  unfold hHead at hF
  split at hF
  · rename_i h
    obtain rfl := Option.some.inj hF
    obtain ⟨n, rfl⟩ : ∃ n : Nat, p0 = (n : Int) := ⟨p0.toNat, by omega⟩
    refine (headR_any w0 n (by omega) (by omega)).mono ?_
    rintro e w ⟨hb, r, B, rfl, hB, how⟩
    obtain ⟨A, c, e, hS⟩ := own_st hb hB how
    exact ⟨_, rfl, A, c, e, hS⟩
  · cases hF

def hPut (_N : Nat) (p0 : List Int) (p1 : ByteArray) : Option (List Int × Int) := if p0.length ≤ 1000000 ∧ p1.size ≤ 1000000 then some ((putA p0 p1).2, (putA p0 p1).1) else none
def hPut_R (r : List Int × Int) (w0 : World) (v : Value) (w : World) : Prop := ∃ (A0' : Option Addr) (c0' : Nat), v = .tuple #[.slice A0' r.1.length c0', .int .i64 r.2] ∧ St [] w0 w [rowE .u8 5 A0' c0' r.1]
theorem hPut_ok (N : Nat) (p0 : List Int) (p1 : ByteArray) (A0 : Option Addr) (c0 : Nat) (r : List Int × Int) (hF : hPut N p0 p1 = some r) (w0 : World) (hv0 : Vw [] .i64 w0 A0 c0 p0) :
    Calls Try.prog 34 #[.slice A0 p0.length c0, .string p1] w0 fun e w => ∃ v, e = .returned v ∧ hPut_R r w0 v w := by
  unfold hPut at hF
  split at hF
  · rename_i h
    obtain rfl := Option.some.inj hF
    refine (refPut_any w0 _ p0 p1 hv0.num h.1 h.2).mono ?_
    rintro e w ⟨hb, r, rfl, how⟩
    obtain ⟨A, c, e, hS⟩ := own_st hb (Nat.le_refl _) how
    exact ⟨_, rfl, A, c, by rw [e], hS⟩
  · cases hF

def hWorks (_N : Nat) : Option Bool := some true
def hWorks_R (r : Bool) (w0 : World) (v : Value) (w : World) : Prop := v = .bool r ∧ St [] w0 w []
theorem hWorks_ok (N : Nat) (r : Bool) (hF : hWorks N = some r) (w0 : World) : Calls Try.prog 8 #[] w0 fun e w => ∃ v, e = .returned v ∧ hWorks_R r w0 v w := by
  obtain rfl := Option.some.inj hF
  refine (works5_any w0).mono ?_
  rintro e w ⟨rfl, hb⟩
  exact ⟨_, rfl, rfl, (St.start w0).stay hb⟩
end Go.Proofs.Ytijmponhkabeiaa
