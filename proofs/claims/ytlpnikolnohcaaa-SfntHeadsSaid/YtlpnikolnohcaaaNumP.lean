/-
  sfnt.numbers: the bytes of numbers.
-/
import Derived.Test.YtlpnikolnohcaaaPutW
import Derived.Deep.OwnRows
namespace Go.Proofs.Ytlpnikolnohcaaa
open Go Go.RowKit

theorem infoI64 : (Try.prog.info? 2).map (fun i => (i.zero, i.size, i.bytes)) = some (some (.int .i64 0), 1, 8) := by kernel_rfl

theorem made_getI (z : Value) (n j : Nat) (h : j < n) : (madeCells #[z] n)[j]? = some z := by
  rw [Array.getElem?_eq_getElem (by simp [size_madeCells]; exact h)]
  simp [madeCells, Nat.mod_one]

def NuRel (w : World) (l : List Int) (g k : Nat) (vi : Value) (wr : World) : Prop := ∃ i : Nat, i + k = l.length ∧ vi = .int .i64 (i : Int) ∧ Below w.heap.size w wr ∧ g < wr.heap.size ∧ ∀ j (h : j < l.length), wr.frozen? ⟨g, j, none⟩ = false ∧ (∃ z, wr.cell? ⟨g, j, none⟩ = some (.int .i64 z)) ∧ (j < i → wr.cell? ⟨g, j, none⟩ = some (.int .i64 l[j]))

set_option maxHeartbeats 2000000 in
set_option maxRecDepth 20000 in
theorem numbers_any (w : World) (v : Value) (l : List Int) (s : ByteArray) (hv : NumZ .i64 w v l) (hl : l.length ≤ 1000) (hs : s.size ≤ 1000) :
    Calls Try.prog 61 #[.string s, v] w fun e w' => Below w.heap.size w w' ∧ ∃ r B, e = .returned r ∧ w.heap.size ≤ B ∧ OwnB B w' r (putA l s).2 := by
  have HP : Hid (∀ wx vx, NumZ .i64 wx vx l → Calls Try.prog 72 #[vx, .string s] wx fun e w' => Below wx.heap.size wx w' ∧ ∃ r, e = .returned (.tuple #[r, .int .i64 (putA l s).1]) ∧ OwnB wx.heap.size w' r (putA l s).2) := Lib.hid (fun wx vx h => put_any wx vx l s h (by omega) (by omega))
  obtain ⟨q, hq⟩ : ∃ q, q = putA l s := ⟨_, rfl⟩
  rw [← hq] at HP ⊢
  have HV := Lib.hid hv
  obtain ⟨A, c, rfl, hc1, hc2, hcell⟩ := hv
  obtain ⟨n, hn⟩ : ∃ n, n = l.length := ⟨_, rfl⟩
  have HN := Lib.hid hn
  rw [← hn] at hl HV ⊢
  obtain ⟨w0, hw0⟩ : ∃ w0, w.alloc (.cells (madeCells #[.int .i64 0] n) 2) = w0 := ⟨_, rfl⟩
  have hmk : (Instr.makeSlice 69 (.int .i64 (n : Int)) (.int .i64 (n : Int))).run Try.prog w = .ok (.slice (some ⟨w.heap.size, 0, none⟩) n n) w0 := by
    rw [← hw0]
    exact run_make_row' (P := Try.prog) 69 2 (.int .i64 0) 8 Try.underlying69 infoI64 rfl .i64 .i64 n (by omega) (by omega) w
  obtain ⟨g, hg⟩ : ∃ g, g = w.heap.size := ⟨_, rfl⟩
  have HG := Lib.hid hg
  have HS : Hid (NuRel w l g n (.int .i64 0) w0) := Lib.hid ⟨0, by omega, rfl, by rw [← hw0]; exact (Below.refl _ w).alloc (Nat.le_refl _) _, by rw [← hw0, hg]; exact heap_more _ _, fun j hj => by
    have hc : w0.cell? ⟨g, j, none⟩ = some (.int .i64 0) := by
      rw [← hw0, hg, cell_of_row _ w.heap.size j _ _ _ (heap_alloc_new w _), made_getI _ n j (by omega)]
    exact ⟨by rw [← hw0, hg]; exact World.frozen?_alloc_new _ _ _ _, ⟨_, hc⟩, fun h => absurd h (Nat.not_lt_zero _)⟩⟩
  rw [← hg] at hmk
  have HGE : Hid (w.heap.size ≤ g) := Lib.hid (by omega)
  have HL := Lib.hid hl
  clear hw0 hg hn hc1 hc2 hcell hs hq
  go_enter Try.func61, Try.ntmps61
  go_wp2_with fail
  clear hmk
  go_loopg [15] n (fun k vi wr => NuRel w l g k vi wr)
  case atStart => exact HS.out
  case round =>
    obtain ⟨i, hik, rfl, hb, hgl, hcs⟩ := hrel
    have HB := Lib.hid hb
    have HCS := Lib.hid hcs
    have HGL := Lib.hid hgl
    have HIK := Lib.hid hik
    by_cases hi : i = n
    · have bi : ((i : Int) < (n : Int)) = False := eq_false (by omega)
      have HZ : Hid (NumZ .i64 wr (.slice (some ⟨g, 0, none⟩) n n) l) := Lib.hid (by
        refine ⟨some ⟨g, 0, none⟩, n, by rw [HN.out], by rw [HN.out]; exact Nat.le_refl _, by omega, fun _ => ⟨g, 0, rfl, hgl, fun j hj => ?_⟩⟩
        rw [Nat.zero_add, (hcs j hj).2.2 (by rw [hi, HN.out]; exact hj)])
      clear hi hik hcs hgl hb
      go_wp2_with fail
      refine (HP.out _ _ HZ.out).mono ?_
      rintro e w2 ⟨hb2, r, rfl, how⟩
      have HB2 := Lib.hid (HB.out.trans (hb2.mono HB.out.size))
      have HOW := Lib.hid how
      clear hb2 how
      go_wp2_with fail
      go_ret
      exact ⟨HB2.out, _, _, rfl, HB.out.size, HOW.out⟩
    · have bi : ((i : Int) < (n : Int)) = True := eq_true (by have := HN.out; omega)
      have iN : (i : Int) < (n : Int) := by have := HN.out; omega
      have i0 : (0 : Int) ≤ (i : Int) := Int.natCast_nonneg _
      have hil : i < l.length := by have := HN.out; omega
      obtain ⟨gv, off, rfl, _, hcell⟩ := (HV.out.below hb).cells (by rintro rfl; simp at hil)
      have cx := hcell i hil
      obtain ⟨i1, hi1⟩ : ∃ i1, i1 = i + 1 := ⟨_, rfl⟩
      have q3 : IntKind.i64.wrap ((i : Int) + 1) = (i1 : Int) := by rw [IntKind.wrap_i64]; have := HL.out; omega
      obtain ⟨x, hx⟩ : ∃ x, x = l[i] := ⟨_, rfl⟩
      rw [← hx] at cx
      obtain ⟨hfz, ⟨z, hz⟩, _⟩ := hcs i hil
      have HX := Lib.hid hx
      have HI1 := Lib.hid hi1
      have HIN := Lib.hid hi
      have HIL := Lib.hid hil
      clear hi hik hcs hgl hb hi1 hcell hx
      go_wp2_with fail
      have HNXT : Hid (NuRel w l g (gk - 1) (.int .i64 (i1 : Int)) (wr.setCell ⟨g, i, none⟩ (.int .i64 x))) := Lib.hid ⟨i1, by have := HI1.out; have := HIK.out; have := HIN.out; have := HN.out; omega, rfl, HB.out.setCell (p := ⟨g, i, none⟩) HGE.out _, Nat.lt_of_lt_of_le HGL.out ((Below.refl 0 wr).setCell (p := ⟨g, i, none⟩) (Nat.zero_le _) _).size, fun j hj => by
        obtain ⟨h1, ⟨z', h2⟩, h3⟩ := HCS.out j hj
        refine ⟨by rw [World.frozen?_setCell]; exact h1, ?_, fun h => ?_⟩
        · by_cases hji : j = i
          · subst hji; exact ⟨x, World.cell?_setCell_same _ _ _ hz⟩
          · exact ⟨z', by rw [World.cell?_setCell_other _ _ _ _ (fun e => hji (by injection e with _ e _; exact e.symm))]; exact h2⟩
        · by_cases hji : j = i
          · subst hji; rw [World.cell?_setCell_same _ _ _ hz, HX.out]
          · rw [World.cell?_setCell_other _ _ _ _ (fun e => hji (by injection e with _ e _; exact e.symm))]
            exact h3 (by have := HI1.out; omega)⟩
      clear hfz hz
      go_wp2_with fail
      go_roundg (gk - 1)
      case measure => have := HIK.out; have := HIN.out; have := HN.out; omega
      case rel => exact HNXT.out
end Go.Proofs.Ytlpnikolnohcaaa
