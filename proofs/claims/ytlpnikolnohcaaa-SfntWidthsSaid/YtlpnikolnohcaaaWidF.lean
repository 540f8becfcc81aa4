/-
  sfnt.Widths: the face; SfntWidths: the walk.
-/
import Derived.Test.YtlpnikolnohcaaaWidA
import Derived.Test.YtlpnikolnohcaaaSameH
import Derived.Test.YtlpnikolnohcaaaWk5
namespace Go.Proofs.Ytlpnikolnohcaaa
open Go Go.RowKit

theorem num_setCell16 {w : World} {g S : Nat} {l : List Int} (h : NumZ .u16 w (.slice (some ⟨g, 0, none⟩) S S) l) (p : Addr) (hp : p.block ≠ g) (x : Value) : NumZ .u16 (w.setCell p x) (.slice (some ⟨g, 0, none⟩) S S) l := by
  obtain ⟨A, c, e, h1, h2, hx⟩ := h
  refine ⟨A, c, e, h1, h2, fun hne => ?_⟩
  obtain ⟨g2, off, hA, hg, hc⟩ := hx hne
  injection e with e1 e2 e3
  have e4 := e1.trans hA
  injection e4 with e5
  injection e5 with e6 e7
  refine ⟨g2, off, hA, Nat.lt_of_lt_of_le hg ((Below.refl 0 w).setCell (p := p) (Nat.zero_le _) x).size, fun j hj => ?_⟩
  rw [World.cell?_setCell_other _ _ _ _ (fun e => hp ((congrArg Addr.block e).trans e6.symm))]
  exact hc j hj

theorem badWidths_eq (a b c : List Int) : badWidths a b c = (badMaxp a || (badHhea b (numAt a 4 2) || decide ((c.length : Int) ≠ 4 * numAt b 34 2 + 2 * (numAt a 4 2 - numAt b 34 2)))) := by
  unfold badWidths badMaxp badHhea
  simp only [Bool.or_assoc]

theorem badHhea_ok {b : List Int} {y : Int} (h : badHhea b y = false) : b.length = 36 ∧ 1 ≤ numAt b 34 2 ∧ numAt b 34 2 ≤ y := by
  unfold badHhea at h
  simp only [Bool.or_eq_false_iff, decide_eq_false_iff_not] at h
  omega

set_option maxHeartbeats 8000000 in
set_option maxRecDepth 20000 in
theorem widthsP_any (w : World) (ra rb rc : Value) (a b c : List Int) (ha : RdZ w ra a) (hb : RdZ w rb b) (hc : RdZ w rc c) (hA : AllB a) (hB : AllB b) (hC : AllB c) (la : a.length ≤ 1000000) (lc : c.length ≤ 1000000) :
    Calls Try.prog 18 #[ra, rb, rc] w fun e w' => Below w.heap.size w w' ∧ ∃ r, e = .returned (.tuple #[r, .int .i16 (widthsS a b c).2.1, .int .i16 (widthsS a b c).2.2.1, .int .i64 (widthsS a b c).2.2.2]) ∧ NumZ .u16 w' r (widthsS a b c).1 := by
  have hmf : ∀ (fn : Fn) (first cap : Array Value) (W : World), (Instr.makeFunc fn first cap).run Try.prog W = .ok (.func fn first cap) W := fun _ _ _ _ => rfl
  have HB0 := Lib.hid (below_alloc (.cells #[.int .i64 0] 25) (Below.refl w.heap.size w))
  have HRA := Lib.hid (ha.below HB0.out)
  have HRB := Lib.hid (hb.below HB0.out)
  have HRC := Lib.hid (hc.below HB0.out)
  have HG := Lib.hid (glyphsOf_any _ ra a HRA.out hA la)
  obtain ⟨q, hq⟩ : ∃ q, q = widthsS a b c := ⟨_, rfl⟩
  rw [← hq]
  unfold widthsS at hq
  rw [badWidths_eq] at hq
  have hyb := numAt_b hA 4 2
  obtain ⟨y, hy⟩ : ∃ y, y = numAt a 4 2 := ⟨_, rfl⟩
  rw [← hy] at HG hq hyb
  have HQ := Lib.hid hq
  have HYB := Lib.hid hyb
  have HBB := Lib.hid hB
  have HCC := Lib.hid hC
  have HLC := Lib.hid lc
  clear ha hb hc hA hB hC la lc hq hyb hy
  go_enter_defers Try.func18, Try.ntmps18
  go_wp2_with fail
  refine (HG.out).mono ?_
  rintro e w1 ⟨hb1, ⟨hbd1, rfl⟩ | ⟨hbd1, rfl⟩⟩
  · have HB1 := Lib.hid hb1
    have HRB1 := Lib.hid (HRB.out.below hb1)
    have HRC1 := Lib.hid (HRC.out.below hb1)
    have HM := Lib.hid (measuredOf_any w1 rb b y HRB1.out HBB.out)
    have HD1 := Lib.hid hbd1
    clear hb1 hbd1
    go_wp2_with fail
    refine (HM.out).mono ?_
    rintro e w2 ⟨hb2, ⟨hbd2, rfl⟩ | ⟨hbd2, rfl⟩⟩
    · obtain ⟨h36, hm1, hmy⟩ := badHhea_ok hbd2
      have hyb2 := HYB.out
      obtain ⟨n, hn⟩ : ∃ n, n = y.toNat := ⟨_, rfl⟩
      obtain ⟨m, hm⟩ : ∃ m, m = (numAt b 34 2).toNat := ⟨_, rfl⟩
      have en : y = (n : Int) := by omega
      have em : numAt b 34 2 = (m : Int) := by omega
      have HB2 := Lib.hid (HB1.out.trans (hb2.mono HB1.out.size))
      have HRC2 := Lib.hid (HRC1.out.below hb2)
      have HRB2 := Lib.hid (HRB1.out.below hb2)
      have HAD := Lib.hid (advancesOf_any w2 rc c n m HRC2.out HCC.out HLC.out (by omega) (by omega) (by omega))
      have HI4 : Hid (∀ wx, Below w2.heap.size w2 wx → Calls Try.prog 44 #[rb, .int .i64 4] wx fun e w' => e = .returned (.int .i16 (IntKind.i16.wrap (numAt b 4 2))) ∧ Below wx.heap.size wx w') := Lib.hid (fun wx hx => rdI wx rb b (HRB2.out.below hx) HBB.out (by omega) 4 (by omega))
      have HI6 : Hid (∀ wx, Below w2.heap.size w2 wx → Calls Try.prog 44 #[rb, .int .i64 6] wx fun e w' => e = .returned (.int .i16 (IntKind.i16.wrap (numAt b 6 2))) ∧ Below wx.heap.size wx w') := Lib.hid (fun wx hx => rdI wx rb b (HRB2.out.below hx) HBB.out (by omega) 6 (by omega))
      have HQ2 : Hid ((c.length = 4 * m + 2 * (n - m) → q = (advL c m n, IntKind.i16.wrap (numAt b 4 2), IntKind.i16.wrap (numAt b 6 2), 0)) ∧ (c.length ≠ 4 * m + 2 * (n - m) → q = ([], 0, 0, 50))) := Lib.hid (by
        rw [HQ.out, HD1.out, hbd2, em, en]
        constructor
        · intro h
          have e : decide ((c.length : Int) ≠ 4 * (m : Int) + 2 * ((n : Int) - (m : Int))) = false := decide_eq_false (by omega)
          rw [e]; rfl
        · intro h
          have e : decide ((c.length : Int) ≠ 4 * (m : Int) + 2 * ((n : Int) - (m : Int))) = true := decide_eq_true (by omega)
          rw [e]; rfl)
      rw [en, em]
      generalize IntKind.i16.wrap (numAt b 4 2) = v4 at HI4 HQ2
      generalize IntKind.i16.wrap (numAt b 6 2) = v6 at HI6 HQ2
      clear h36 hm1 hmy hyb2 hn hm en em hb2 hbd2
      go_wp2_with fail
      refine (HAD.out).mono ?_
      rintro e w3 ⟨hb3, ⟨hl3, g, rfl, hg, hnum⟩ | ⟨hl3, rfl⟩⟩
      · have HB3 := Lib.hid hb3
        have HNM := Lib.hid hnum
        have HGG := Lib.hid (Nat.le_trans HB2.out.size hg)
        have HV := Lib.hid (HQ2.out.1 hl3)
        clear hb3 hl3 hg hnum
        go_wp2_with fail
        refine (HI4.out _ HB3.out).mono ?_
        rintro e w4 ⟨rfl, hb4⟩
        have HB4 := Lib.hid (HB3.out.trans (hb4.mono HB3.out.size))
        have HN4 := Lib.hid (HNM.out.below hb4)
        clear hb4
        go_wp2_with fail
        refine (HI6.out _ HB4.out).mono ?_
        rintro e w5 ⟨rfl, hb5⟩
        have HB5 := Lib.hid (HB4.out.trans (hb5.mono HB4.out.size))
        have HN5 := Lib.hid (HN4.out.below hb5)
        clear hb5
        obtain ⟨hc, hz, hw⟩ := face_var (HB2.out.trans (HB5.out.mono HB2.out.size))
        have HB := Lib.hid hw
        have HC := Lib.hid hc
        have HZ := Lib.hid hz
        clear hw
        go_wp2_with fail
        refine leaves_cons (f := 40) (args := #[.pointer (some ⟨w.heap.size, 0, none⟩)]) (by simp) (by simp [go_sem]) ?_
        refine (idleWidths ⟨w.heap.size, 0, none⟩ 0 _ (World.cell?_setCell_same _ _ _ HC.out) (by rw [World.frozen?_setCell]; exact HZ.out)).mono ?_
        rintro e u' wf ⟨rfl, rfl, hwf⟩
        have hcell : wf.cell? ⟨w.heap.size, 0, none⟩ = some (.int .i64 0) := by rw [hwf]; exact World.cell?_setCell_same _ _ _ (World.cell?_setCell_same _ _ _ HC.out)
        have hbel : Below w.heap.size w wf := by rw [hwf]; exact (HB.out.setCell (p := ⟨w.heap.size, 0, none⟩) (Nat.le_refl _) _).setCell (p := ⟨w.heap.size, 0, none⟩) (Nat.le_refl _) _
        have hne : w.heap.size ≠ g := by have h := HGG.out; rw [heap_plus] at h; omega
        have hown : NumZ .u16 wf (.slice (some ⟨g, 0, none⟩) n n) (advL c m n) := by
          rw [hwf]
          exact num_setCell16 (num_setCell16 HN5.out ⟨w.heap.size, 0, none⟩ hne _) ⟨w.heap.size, 0, none⟩ hne _
        clear hwf hc hz
        simp [Leaves, settle, results, Try.results18, go_sem, hcell]
        rw [HV.out]
        exact ⟨hbel, _, ⟨rfl, rfl, rfl, rfl⟩, hown⟩
      · have HQ3 := Lib.hid (HQ2.out.2 hl3)
        obtain ⟨hc, hz, hw⟩ := face_var (HB2.out.trans (hb3.mono HB2.out.size))
        have HB := Lib.hid hw
        have HV : Hid (q = ([], 0, 0, 50)) := Lib.hid (HQ3.out)
        refine leaves_cons (f := 40) (args := #[.pointer (some ⟨w.heap.size, 0, none⟩)]) (by simp) (by simp [go_sem]) ?_
        refine (catchWidths ⟨w.heap.size, 0, none⟩ 0 50 [] _ hc hz).mono ?_
        rintro e u' wf ⟨rfl, rfl, hwf⟩
        have hcell : wf.cell? ⟨w.heap.size, 0, none⟩ = some (.int .i64 50) := by rw [hwf]; exact World.cell?_setCell_same _ _ _ hc
        have hbel : Below w.heap.size w wf := by rw [hwf]; exact HB.out.setCell (p := ⟨w.heap.size, 0, none⟩) (Nat.le_refl _) _
        clear hwf hc hz hw
        simp [Leaves, settle, results, Try.results18, go_sem, hcell]
        rw [HV.out]
        exact ⟨hbel, _, ⟨rfl, rfl, rfl, rfl⟩, NumZ.nil _ _⟩
    · have HQ3 : Hid (q = ([], 0, 0, 50)) := Lib.hid (by rw [HQ.out, hbd2]; simp)
      obtain ⟨hc, hz, hw⟩ := face_var (HB1.out.trans (hb2.mono HB1.out.size))
      have HB := Lib.hid hw
      have HV : Hid (q = ([], 0, 0, 50)) := Lib.hid (HQ3.out)
      refine leaves_cons (f := 40) (args := #[.pointer (some ⟨w.heap.size, 0, none⟩)]) (by simp) (by simp [go_sem]) ?_
      refine (catchWidths ⟨w.heap.size, 0, none⟩ 0 50 [] _ hc hz).mono ?_
      rintro e u' wf ⟨rfl, rfl, hwf⟩
      have hcell : wf.cell? ⟨w.heap.size, 0, none⟩ = some (.int .i64 50) := by rw [hwf]; exact World.cell?_setCell_same _ _ _ hc
      have hbel : Below w.heap.size w wf := by rw [hwf]; exact HB.out.setCell (p := ⟨w.heap.size, 0, none⟩) (Nat.le_refl _) _
      clear hwf hc hz hw
      simp [Leaves, settle, results, Try.results18, go_sem, hcell]
      rw [HV.out]
      exact ⟨hbel, _, ⟨rfl, rfl, rfl, rfl⟩, NumZ.nil _ _⟩
  · have HQ3 : Hid (q = ([], 0, 0, 50)) := Lib.hid (by rw [HQ.out, hbd1]; simp)
    obtain ⟨hc, hz, hw⟩ := face_var (hb1)
    have HB := Lib.hid hw
    have HV : Hid (q = ([], 0, 0, 50)) := Lib.hid (HQ3.out)
    refine leaves_cons (f := 40) (args := #[.pointer (some ⟨w.heap.size, 0, none⟩)]) (by simp) (by simp [go_sem]) ?_
    refine (catchWidths ⟨w.heap.size, 0, none⟩ 0 50 [] _ hc hz).mono ?_
    rintro e u' wf ⟨rfl, rfl, hwf⟩
    have hcell : wf.cell? ⟨w.heap.size, 0, none⟩ = some (.int .i64 50) := by rw [hwf]; exact World.cell?_setCell_same _ _ _ hc
    have hbel : Below w.heap.size w wf := by rw [hwf]; exact HB.out.setCell (p := ⟨w.heap.size, 0, none⟩) (Nat.le_refl _) _
    clear hwf hc hz hw
    simp [Leaves, settle, results, Try.results18, go_sem, hcell]
    rw [HV.out]
    exact ⟨hbel, _, ⟨rfl, rfl, rfl, rfl⟩, NumZ.nil _ _⟩
end Go.Proofs.Ytlpnikolnohcaaa
