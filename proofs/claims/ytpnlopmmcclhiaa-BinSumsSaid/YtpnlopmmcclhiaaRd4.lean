/-
  A reader's words, one behind the other.
-/
import Derived.Test.YtpnlopmmcclhiaaRd3
namespace Go.Proofs.Ytpnlopmmcclhiaa
open Go Go.RowKit

theorem infoW : (Try.prog.info? 26).map (fun i => (i.zero, i.size, i.bytes)) = some (some (.int .u16 0), 1, 2) := by kernel_rfl

theorem made_get (z : Value) (n j : Nat) (h : j < n) : (madeCells #[z] n)[j]? = some z := by
  rw [Array.getElem?_eq_getElem (by simp [size_madeCells]; exact h)]
  simp [madeCells, Nat.mod_one]

/-- n words from a place on -/
def wordsL (l : List Int) (p n : Nat) : List Int := (List.range n).map fun j => wordAt l (p + 2 * j)

def WRel (w : World) (l : List Int) (p n g k : Nat) (vi : Value) (wr : World) : Prop := ∃ i : Nat, i + k = n ∧ vi = .int .i64 (i : Int) ∧ Below w.heap.size w wr ∧ g < wr.heap.size ∧ ∀ j < n, wr.frozen? ⟨g, j, none⟩ = false ∧ (∃ z, wr.cell? ⟨g, j, none⟩ = some (.int .u16 z)) ∧ (j < i → wr.cell? ⟨g, j, none⟩ = some (.int .u16 (wordAt l (p + 2 * j))))

set_option maxHeartbeats 2000000 in
set_option maxRecDepth 20000 in
theorem rd_words (w : World) (r : Value) (l : List Int) (hr : RdZ w r l) (hA : AllB l) (hl : l.length ≤ 1000000) (p n : Nat) (h : p + 2 * n ≤ l.length) :
    Calls Try.prog 16 #[r, .int .i64 (p : Int), .int .i64 (n : Int)] w fun e w' => Below w.heap.size w w' ∧ ∃ v, e = .returned v ∧ NumZ .u16 w' v (wordsL l p n) := by
  have HH := Lib.hid (rd_has w r l hr (by omega) p n 2 (.inr (.inl rfl)) (by omega))
  have HWD : Hid (∀ wx, Below w.heap.size w wx → ∀ i, i < n → Calls Try.prog 12 #[r, .int .i64 ((p + 2 * i : Nat) : Int)] wx fun e w' => e = .returned (.int .u16 (wordAt l (p + 2 * i))) ∧ Below wx.heap.size wx w') := Lib.hid (fun wx hb i hi => rd_word2 wx r l (hr.below hb) hA (by omega) (p + 2 * i) (by omega))
  obtain ⟨w0, hw0⟩ : ∃ w0, w.alloc (.cells (madeCells #[.int .u16 0] n) 26) = w0 := ⟨_, rfl⟩
  have hmk : (Instr.makeSlice 33 (.int .i64 (n : Int)) (.int .i64 (n : Int))).run Try.prog w = .ok (.slice (some ⟨w.heap.size, 0, none⟩) n n) w0 := by
    rw [← hw0]
    exact run_make_row' (P := Try.prog) 33 26 (.int .u16 0) 2 Try.underlying33 infoW rfl .i64 .i64 n (by omega) (by omega) w
  obtain ⟨g, hg⟩ : ∃ g, g = w.heap.size := ⟨_, rfl⟩
  have HG := Lib.hid hg
  have HS : Hid (WRel w l p n g n (.int .i64 0) w0) := Lib.hid ⟨0, by omega, rfl, by rw [← hw0]; exact (Below.refl _ w).alloc (Nat.le_refl _) _, by rw [← hw0, hg]; exact heap_more _ _, fun j hj => by
    have hc : w0.cell? ⟨g, j, none⟩ = some (.int .u16 0) := by
      rw [← hw0, hg, cell_of_row _ w.heap.size j _ _ _ (heap_alloc_new w _), made_get _ n j hj]
    exact ⟨by rw [← hw0, hg]; exact World.frozen?_alloc_new _ _ _ _, ⟨_, hc⟩, fun h => absurd h (Nat.not_lt_zero _)⟩⟩
  rw [← hg] at hmk
  have hn6 : n ≤ 1000000 := by omega
  have hp6 : p ≤ 1000000 := by omega
  have HGE : Hid (w.heap.size ≤ g) := Lib.hid (by omega)
  clear hr hA hl h hw0 hg
  go_enter Try.func16, Try.ntmps16
  go_wp2_with fail
  refine (HH.out).mono ?_
  rintro e w1 ⟨rfl, rfl⟩
  go_wp2_with fail
  clear hmk
  go_loopg [18] n (fun k vi wr => WRel w l p n g k vi wr)
  case atStart => exact HS.out
  case round =>
    obtain ⟨i, hik, rfl, hb, hgl, hcs⟩ := hrel
    have HB := Lib.hid hb
    have HCS := Lib.hid hcs
    have HGL := Lib.hid hgl
    have HIK := Lib.hid hik
    by_cases hi : i = n
    · have bi : ((i : Int) < (n : Int)) = False := eq_false (by omega)
      have HZ : Hid (NumZ .u16 wr (.slice (some ⟨g, 0, none⟩) n n) (wordsL l p n)) := Lib.hid (by
        have hlen : (wordsL l p n).length = n := by simp [wordsL]
        refine ⟨some ⟨g, 0, none⟩, n, by rw [hlen], by rw [hlen]; exact Nat.le_refl _, by omega, fun _ => ⟨g, 0, rfl, hgl, fun j hj => ?_⟩⟩
        rw [hlen] at hj
        rw [Nat.zero_add, (hcs j hj).2.2 (by omega)]
        simp [wordsL])
      clear hi hik hcs hgl hb
      go_wp2_with fail
      go_ret
      exact ⟨HB.out, _, rfl, HZ.out⟩
    · have bi : ((i : Int) < (n : Int)) = True := eq_true (by omega)
      have iN : (i : Int) < (n : Int) := by omega
      have i0 : (0 : Int) ≤ (i : Int) := Int.natCast_nonneg _
      have HW := HWD.out wr hb i (by omega)
      obtain ⟨m, hm⟩ : ∃ m, m = 2 * i := ⟨_, rfl⟩
      obtain ⟨q, hq⟩ : ∃ q, q = p + 2 * i := ⟨_, rfl⟩
      obtain ⟨i1, hi1⟩ : ∃ i1, i1 = i + 1 := ⟨_, rfl⟩
      have q1 : IntKind.i64.wrap (2 * (i : Int)) = (m : Int) := by rw [IntKind.wrap_i64]; omega
      have q2 : IntKind.i64.wrap ((p : Int) + (m : Int)) = (q : Int) := by rw [IntKind.wrap_i64]; omega
      have q3 : IntKind.i64.wrap ((i : Int) + 1) = (i1 : Int) := by rw [IntKind.wrap_i64]; omega
      rw [← hq] at HW
      obtain ⟨x, hx⟩ : ∃ x, x = wordAt l q := ⟨_, rfl⟩
      rw [← hx] at HW
      have HX : Hid (x = wordAt l (p + 2 * i)) := Lib.hid (by rw [hx, hq])
      have HWW := Lib.hid HW
      have HI1 := Lib.hid hi1
      have HIN := Lib.hid hi
      clear HW hi hik hcs hgl hb hm hq hi1 hx
      go_wp2_with fail
      refine (HWW.out).mono ?_
      rintro e w2 ⟨rfl, hb2⟩
      have HB2 := Lib.hid (HB.out.trans (hb2.mono HB.out.size))
      have HC2 : Hid (∀ j < n, w2.frozen? ⟨g, j, none⟩ = false ∧ (∃ z, w2.cell? ⟨g, j, none⟩ = some (.int .u16 z)) ∧ (j < i → w2.cell? ⟨g, j, none⟩ = some (.int .u16 (wordAt l (p + 2 * j))))) := Lib.hid (fun j hj => by
        obtain ⟨h1, ⟨z, h2⟩, h3⟩ := HCS.out j hj
        exact ⟨by rw [hb2.frozen (by exact HGL.out)]; exact h1, ⟨z, cellsAt_below h2 hb2⟩, fun h => cellsAt_below (h3 h) hb2⟩)
      obtain ⟨hfz, ⟨z, hz⟩, _⟩ := HC2.out i (by omega)
      have HG2 : Hid (g < w2.heap.size) := Lib.hid (Nat.lt_of_lt_of_le HGL.out hb2.size)
      rename_i h0
      clear hb2 h0
      go_wp2_with fail
      have HNXT : Hid (WRel w l p n g (gk - 1) (.int .i64 (i1 : Int)) (w2.setCell ⟨g, i, none⟩ (.int .u16 x))) := Lib.hid ⟨i1, by have := HI1.out; have := HIK.out; have := HIN.out; omega, rfl, HB2.out.setCell (p := ⟨g, i, none⟩) HGE.out _, Nat.lt_of_lt_of_le HG2.out ((Below.refl 0 w2).setCell (p := ⟨g, i, none⟩) (Nat.zero_le _) _).size, fun j hj => by
        obtain ⟨h1, ⟨z', h2⟩, h3⟩ := HC2.out j hj
        refine ⟨by rw [World.frozen?_setCell]; exact h1, ?_, fun h => ?_⟩
        · by_cases hji : j = i
          · subst hji; exact ⟨x, World.cell?_setCell_same _ _ _ hz⟩
          · exact ⟨z', by rw [World.cell?_setCell_other _ _ _ _ (fun e => hji (by injection e with _ e _; exact e.symm))]; exact h2⟩
        · by_cases hji : j = i
          · subst hji; rw [World.cell?_setCell_same _ _ _ hz, HX.out]
          · rw [World.cell?_setCell_other _ _ _ _ (fun e => hji (by injection e with _ e _; exact e.symm))]
            exact h3 (by have := HI1.out; omega)⟩
      clear hfz hz
      go_wp2_with fail
      go_roundg (gk - 1)
      case measure => have := HIK.out; have := HIN.out; omega
      case rel => exact HNXT.out
end Go.Proofs.Ytpnlopmmcclhiaa
