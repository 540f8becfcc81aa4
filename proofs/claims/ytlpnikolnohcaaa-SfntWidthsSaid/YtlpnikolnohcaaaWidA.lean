/-
  sfnt.Widths: hmtx; the face.
-/
import Derived.Test.YtlpnikolnohcaaaWidP
import Derived.Deep.OwnRows
namespace Go.Proofs.Ytlpnikolnohcaaa
open Go Go.RowKit

theorem infoW5 : (Try.prog.info? 43).map (fun i => (i.zero, i.size, i.bytes)) = some (some (.int .u16 0), 1, 2) := by kernel_rfl

theorem made_getW (z : Value) (n j : Nat) (h : j < n) : (madeCells #[z] n)[j]? = some z := by
  rw [Array.getElem?_eq_getElem (by simp [size_madeCells]; exact h)]
  simp [madeCells, Nat.mod_one]

def AvRel (w : World) (l : List Int) (m n g k : Nat) (vi : Value) (wr : World) : Prop := ∃ i : Nat, i + k = n ∧ vi = .int .i64 (i : Int) ∧ Below w.heap.size w wr ∧ g < wr.heap.size ∧ ∀ j < n, wr.frozen? ⟨g, j, none⟩ = false ∧ (∃ z, wr.cell? ⟨g, j, none⟩ = some (.int .u16 z)) ∧ (j < i → wr.cell? ⟨g, j, none⟩ = some (.int .u16 (numAt l ((4 * min j (m - 1) : Nat) : Int) 2)))

set_option maxHeartbeats 4000000 in
set_option maxRecDepth 20000 in
theorem advancesOf_any (w : World) (r : Value) (l : List Int) (n m : Nat) (hr : RdZ w r l) (hA : AllB l) (hl : l.length ≤ 1000000) (hm : 1 ≤ m) (hmn : m ≤ n) (hn : n ≤ 65535) :
    Calls Try.prog 43 #[r, .int .i64 (n : Int), .int .i64 (m : Int)] w fun e w' => Below w.heap.size w w' ∧ ((l.length = 4 * m + 2 * (n - m) ∧ ∃ g, e = .returned (.slice (some ⟨g, 0, none⟩) n n) ∧ w.heap.size ≤ g ∧ NumZ .u16 w' (.slice (some ⟨g, 0, none⟩) n n) (advL l m n)) ∨ (l.length ≠ 4 * m + 2 * (n - m) ∧ e = gone 50)) := by
  obtain ⟨m4, hm4⟩ : ∃ x, x = 4 * m := ⟨_, rfl⟩
  obtain ⟨d, hd⟩ : ∃ x, x = n - m := ⟨_, rfl⟩
  obtain ⟨d2, hd2⟩ : ∃ x, x = 2 * d := ⟨_, rfl⟩
  obtain ⟨s, hs⟩ : ∃ x, x = m4 + d2 := ⟨_, rfl⟩
  have q1 : IntKind.i64.wrap (4 * (m : Int)) = (m4 : Int) := by rw [IntKind.wrap_i64]; omega
  have q2 : IntKind.i64.wrap ((n : Int) - (m : Int)) = (d : Int) := by rw [IntKind.wrap_i64]; omega
  have q3 : IntKind.i64.wrap (2 * (d : Int)) = (d2 : Int) := by rw [IntKind.wrap_i64]; omega
  have q4 : IntKind.i64.wrap ((m4 : Int) + (d2 : Int)) = (s : Int) := by rw [IntKind.wrap_i64]; omega
  rw [← hm4, ← hd, ← hd2, ← hs]
  by_cases h0 : l.length = s
  · have HZ := Lib.hid (size_ok w r l hr (s : Int) (by omega))
    obtain ⟨m1, hm1⟩ : ∃ x, x = m - 1 := ⟨_, rfl⟩
    have q5 : IntKind.i64.wrap ((m : Int) - 1) = (m1 : Int) := by rw [IntKind.wrap_i64]; omega
    have HWD : Hid (∀ wx, Below w.heap.size w wx → ∀ i, i < n → Calls Try.prog 47 #[r, .int .i64 ((4 * min i m1 : Nat) : Int)] wx fun e w' => e = .returned (.int .u16 (numAt l ((4 * min i m1 : Nat) : Int) 2)) ∧ Below wx.heap.size wx w') := Lib.hid (fun wx hb i hi => rdW wx r l (hr.below hb) hA (by omega) (4 * min i m1) (by omega))
    obtain ⟨w0, hw0⟩ : ∃ w0, w.alloc (.cells (madeCells #[.int .u16 0] n) 43) = w0 := ⟨_, rfl⟩
    have hmk : (Instr.makeSlice 49 (.int .i64 (n : Int)) (.int .i64 (n : Int))).run Try.prog w = .ok (.slice (some ⟨w.heap.size, 0, none⟩) n n) w0 := by
      rw [← hw0]
      exact run_make_row' (P := Try.prog) 49 43 (.int .u16 0) 2 Try.underlying49 infoW5 rfl .i64 .i64 n (by omega) (by omega) w
    obtain ⟨g, hg⟩ : ∃ g, g = w.heap.size := ⟨_, rfl⟩
    have HS : Hid (AvRel w l m n g n (.int .i64 0) w0) := Lib.hid ⟨0, by omega, rfl, by rw [← hw0]; exact (Below.refl _ w).alloc (Nat.le_refl _) _, by rw [← hw0, hg]; exact heap_more _ _, fun j hj => by
      have hc : w0.cell? ⟨g, j, none⟩ = some (.int .u16 0) := by
        rw [← hw0, hg, cell_of_row _ w.heap.size j _ _ _ (heap_alloc_new w _), made_getW _ n j hj]
      exact ⟨by rw [← hw0, hg]; exact World.frozen?_alloc_new _ _ _ _, ⟨_, hc⟩, fun h => absurd h (Nat.not_lt_zero _)⟩⟩
    rw [← hg] at hmk
    have HGE : Hid (w.heap.size ≤ g) := Lib.hid (by omega)
    have H0 := Lib.hid h0
    have HM1 := Lib.hid hm1
    have HNN := Lib.hid (And.intro hm (And.intro hmn hn))
    clear hr hA hl hw0 hg h0 hm hmn hn hm4 hd hd2 hs hm1
    go_enter Try.func43, Try.ntmps43
    go_wp2_with fail
    refine (HZ.out).mono ?_
    rintro e w1 ⟨rfl, rfl⟩
    go_wp2_with fail
    clear hmk
    go_loopg [22] n (fun k vi wr => AvRel w l m n g k vi wr)
    case atStart => exact HS.out
    case round =>
      obtain ⟨i, hik, rfl, hb, hgl, hcs⟩ := hrel
      have HB := Lib.hid hb
      have HCS := Lib.hid hcs
      have HGL := Lib.hid hgl
      have HIK := Lib.hid hik
      by_cases hi : i = n
      · have bi : ((i : Int) < (n : Int)) = False := eq_false (by omega)
        have HZ2 : Hid (NumZ .u16 wr (.slice (some ⟨g, 0, none⟩) n n) (advL l m n)) := Lib.hid (by
          have hlen : (advL l m n).length = n := by simp [advL]
          refine ⟨some ⟨g, 0, none⟩, n, by rw [hlen], by rw [hlen]; exact Nat.le_refl _, by have := HNN.out; omega, fun _ => ⟨g, 0, rfl, hgl, fun j hj => ?_⟩⟩
          rw [hlen] at hj
          rw [Nat.zero_add, (hcs j hj).2.2 (by omega)]
          simp [advL])
        clear hi hik hcs hgl hb
        go_wp2_with fail
        go_ret
        exact ⟨HB.out, .inl ⟨H0.out, g, rfl, HGE.out, HZ2.out⟩⟩
      · have bi : ((i : Int) < (n : Int)) = True := eq_true (by omega)
        have iN : (i : Int) < (n : Int) := by omega
        have i0 : (0 : Int) ≤ (i : Int) := Int.natCast_nonneg _
        have HW := HWD.out wr hb i (by omega)
        obtain ⟨mn, hmn2⟩ : ∃ x, x = min i m1 := ⟨_, rfl⟩
        obtain ⟨q, hq⟩ : ∃ x, x = 4 * mn := ⟨_, rfl⟩
        have imn : (if (m1 : Int) < (i : Int) then (m1 : Int) else (i : Int)) = (mn : Int) := by split <;> omega
        have imn2 : (if m1 < i then (m1 : Int) else (i : Int)) = (mn : Int) := by split <;> omega
        have q6 : IntKind.i64.wrap (4 * (mn : Int)) = (q : Int) := by rw [IntKind.wrap_i64]; have := HNN.out; omega
        have q7 : IntKind.i64.wrap ((i : Int) + 1) = ((i + 1 : Nat) : Int) := by rw [IntKind.wrap_i64]; have := HNN.out; omega
        rw [← hmn2, ← hq] at HW
        obtain ⟨x, hx⟩ : ∃ x, x = numAt l (q : Int) 2 := ⟨_, rfl⟩
        rw [← hx] at HW
        have HX : Hid (x = numAt l ((4 * min i (m - 1) : Nat) : Int) 2) := Lib.hid (by rw [hx, hq, hmn2, HM1.out])
        have HWW := Lib.hid HW
        have HIN := Lib.hid hi
        clear HW hi hik hcs hgl hb hq hx hmn2
        go_wp2_with fail
        refine (HWW.out).mono ?_
        rintro e w2 ⟨rfl, hb2⟩
        have HB2 := Lib.hid (HB.out.trans (hb2.mono HB.out.size))
        have HC2 : Hid (∀ j < n, w2.frozen? ⟨g, j, none⟩ = false ∧ (∃ z, w2.cell? ⟨g, j, none⟩ = some (.int .u16 z)) ∧ (j < i → w2.cell? ⟨g, j, none⟩ = some (.int .u16 (numAt l ((4 * min j (m - 1) : Nat) : Int) 2)))) := Lib.hid (fun j hj => by
          obtain ⟨h1, ⟨z, h2⟩, h3⟩ := HCS.out j hj
          exact ⟨by rw [hb2.frozen (by exact HGL.out)]; exact h1, ⟨z, cellsAt_below h2 hb2⟩, fun h => cellsAt_below (h3 h) hb2⟩)
        obtain ⟨hfz, ⟨z, hz⟩, _⟩ := HC2.out i (by omega)
        have HG2 : Hid (g < w2.heap.size) := Lib.hid (Nat.lt_of_lt_of_le HGL.out hb2.size)
        rename_i hjunk
        clear hb2 hjunk
        go_wp2_with fail
        have HNXT : Hid (AvRel w l m n g (gk - 1) (.int .i64 ((i + 1 : Nat) : Int)) (w2.setCell ⟨g, i, none⟩ (.int .u16 x))) := Lib.hid ⟨i + 1, by have := HIK.out; have := HIN.out; omega, rfl, HB2.out.setCell (p := ⟨g, i, none⟩) HGE.out _, Nat.lt_of_lt_of_le HG2.out ((Below.refl 0 w2).setCell (p := ⟨g, i, none⟩) (Nat.zero_le _) _).size, fun j hj => by
          obtain ⟨h1, ⟨z', h2⟩, h3⟩ := HC2.out j hj
          refine ⟨by rw [World.frozen?_setCell]; exact h1, ?_, fun h => ?_⟩
          · by_cases hji : j = i
            · subst hji; exact ⟨x, World.cell?_setCell_same _ _ _ hz⟩
            · exact ⟨z', by rw [World.cell?_setCell_other _ _ _ _ (fun e => hji (by injection e with _ e _; exact e.symm))]; exact h2⟩
          · by_cases hji : j = i
            · subst hji; rw [World.cell?_setCell_same _ _ _ hz, HX.out]
            · rw [World.cell?_setCell_other _ _ _ _ (fun e => hji (by injection e with _ e _; exact e.symm))]
              exact h3 (by omega)⟩
        clear hfz hz
        go_wp2_with fail
        go_roundg (gk - 1)
        case measure => have := HIK.out; have := HIN.out; omega
        case rel => exact HNXT.out
  · have HZ := Lib.hid (size_bad w r l hr (s : Int) (by omega))
    have H0 := Lib.hid h0
    clear hr hA hl h0 hm hmn hn hm4 hd hd2 hs
    go_enter Try.func43, Try.ntmps43
    go_wp2_with fail
    refine (HZ.out).mono ?_
    rintro e w1 ⟨rfl, rfl⟩
    exact ⟨rfl, Below.refl _ _, .inr ⟨H0.out, rfl⟩⟩
end Go.Proofs.Ytlpnikolnohcaaa
