/-
  Slices that came in, as the walks ask them; utf8's two tables, out of what a row lists.
-/
import Derived.Test.YtjpdhfolfmamcaaDoorRows
import Derived.Test.YtjpdhfolfmamcaaDoorBack
import Derived.ProofKit
import Derived.LaidMore
import Derived.LaidSub
import Derived.OpenShut
import Derived.ChangeOld
import Derived.ChangeSlices
import Derived.Carry
import Derived.Lib.LaidU8T
namespace Go.Proofs.YtjpdhfolfmamcaaDoor
open Go Go.ChangeShapes Go.WideShapes Go.ChangeAt Go.RowKit

theorem u8_bounds {n : Int} (h : (Lit.int .u8 n).wf = true) : 0 ≤ n ∧ n ≤ 255 := by
  simp [Lit.wf, IntKind.min, IntKind.max, IntKind.signed, IntKind.bits, Bool.and_eq_true, decide_eq_true_eq] at h
  omega

/-- a slice of bytes that came in, as the walks ask it -/
theorem bytes_in {H : Type} {enc : TypeId × Value → H} {W : World} {a0 : Option Addr} {len0 cap0 : Nat} {d : DataW H} {ps : List MemPlace} (h0 : DataW.Trod enc Tryd.prog W 0 (fun _ => true) true 33 (.slice a0 len0 cap0) d ps) :
    ∃ s : ByteArray, s.size ≤ maxLen ∧ BytesR W (.slice a0 len0 cap0) s := by
  obtain ⟨fuel, hf⟩ := h0
  rcases open_ints Tryd.underlying33 Tryd.underlying5 (by kernel_rfl) hf with ⟨hcs, _⟩ | ⟨x, l, c, zs, hcs, _, hl, hm, hz, _, hcell, hwz⟩
  · simp [Value.cells] at hcs
    obtain ⟨rfl, rfl, rfl⟩ := hcs
    exact ⟨⟨#[]⟩, Nat.zero_le _, none, 0, rfl, Nat.le_refl _, Nat.zero_le _, fun h => absurd h (Nat.lt_irrefl _)⟩
  · simp [Value.cells] at hcs
    obtain ⟨rfl, rfl, rfl⟩ := hcs
    have hz' : zs.length = cap0 := by simpa using hz
    obtain ⟨s, hs⟩ : ∃ s : ByteArray, s = ⟨((zs.take len0).map fun z => UInt8.ofNat z.toNat).toArray⟩ := ⟨_, rfl⟩
    have hsz : s.size = len0 := by rw [hs]; simp [ByteArray.size]; omega
    refine ⟨s, by rw [hsz]; omega, some x, cap0, by rw [hsz], by omega, by unfold maxLen at hm; omega, fun hp => ?_⟩
    obtain ⟨g, off, spot⟩ := x
    have hc0 := hcell 0 (by omega)
    have hspot : spot = none := by simpa [Addr.add] using World.cell?_spot hc0
    subst hspot
    refine ⟨g, off, rfl, ?_, ⟨fun j hj => ?_⟩⟩
    · rw [add_flat] at hc0
      exact World.block_lt_of_cell? W _ hc0
    · rw [hsz] at hj
      have hc := hcell j (by omega)
      rw [add_flat] at hc
      rw [hc]
      have hjz : j < zs.length := by omega
      have hw := hwz (zs.getD j 0) (by rw [List.getD_eq_getElem?_getD, List.getElem?_eq_getElem hjz]; exact List.getElem_mem _)
      have hb := u8_bounds hw
      have hg : zs.getD j 0 = zs[j] := by simp [hjz]
      rw [hg] at hb
      congr 2
      have e : byN s j = (zs.getD j 0).toNat := by
        rw [hs]
        unfold byN
        have hj' : j < (ByteArray.mk ((zs.take len0).map fun z => UInt8.ofNat z.toNat).toArray).size := by rw [← hs, hsz]; exact hj
        rw [hg]
        simp [ByteArray.get!, hj, hjz]
        omega
      rw [e, hg]
      omega

/-- a slice of runes that came in, as the walks ask it -/
theorem runes_in {H : Type} {enc : TypeId × Value → H} {W : World} {a0 : Option Addr} {len0 cap0 : Nat} {d : DataW H} {ps : List MemPlace} (h0 : DataW.Trod enc Tryd.prog W 0 (fun _ => true) true 34 (.slice a0 len0 cap0) d ps) :
    ∃ l : List Int, l.length ≤ maxLen ∧ RunesZ W (.slice a0 len0 cap0) l := by
  obtain ⟨fuel, hf⟩ := h0
  rcases open_ints Tryd.underlying34 Tryd.underlying21 (by kernel_rfl) hf with ⟨hcs, _⟩ | ⟨x, l, c, zs, hcs, _, hl, hm, hz, _, hcell, hwz⟩
  · simp [Value.cells] at hcs
    obtain ⟨rfl, rfl, rfl⟩ := hcs
    exact ⟨[], Nat.zero_le _, none, 0, rfl, Nat.le_refl _, fun h => absurd rfl h⟩
  · simp [Value.cells] at hcs
    obtain ⟨rfl, rfl, rfl⟩ := hcs
    have hz' : zs.length = cap0 := by simpa using hz
    have hlen : (zs.take len0).length = len0 := by simp; omega
    refine ⟨zs.take len0, by rw [hlen]; omega, some x, cap0, by rw [hlen], by omega, fun hp => ?_⟩
    have hpos : 0 < len0 := by
      rcases Nat.eq_zero_or_pos len0 with h | h
      · rw [h] at hp; exact absurd rfl hp
      · exact h
    obtain ⟨g, off, spot⟩ := x
    have hc0 := hcell 0 (by omega)
    have hspot : spot = none := by simpa [Addr.add] using World.cell?_spot hc0
    subst hspot
    refine ⟨g, off, rfl, ?_, fun j hj => ?_⟩
    · rw [add_flat] at hc0
      exact World.block_lt_of_cell? W _ hc0
    · rw [hlen] at hj
      have hc := hcell j (by omega)
      rw [add_flat] at hc
      rw [hc]
      have hjz : j < zs.length := by omega
      simp [hjz]

/-- the numbers that the library's two tables have here -/
def renU8 : Go.Shelf.Ren := ⟨fun x => x, fun x => match x with | 5 => 5 | 119 => 62 | 138 => 64 | 139 => 65 | n => n, fun x => match x with | 3 => 1 | 4 => 2 | n => n⟩

theorem u8_of_laid {L : List (String × DataW Unit)} {W : World}
    (h1 : ((L.filter fun x => x.2.handleName?.isNone).filter fun x => x.1 == "unicode/utf8.first") = [("unicode/utf8.first", Lib.firstData)])
    (h2 : ((L.filter fun x => x.2.handleName?.isNone).filter fun x => x.1 == "unicode/utf8.acceptRanges") = [("unicode/utf8.acceptRanges", Lib.acceptData)])
    (hL : laidMetH Tryd.prog L W) : U8T W := by
  have e1 := ((laidMetH_iff.1 hL).1).filter (fun x => x.1 == "unicode/utf8.first")
  have e2 := ((laidMetH_iff.1 hL).1).filter (fun x => x.1 == "unicode/utf8.acceptRanges")
  rw [h1] at e1
  rw [h2] at e2
  exact utf8Tabs_of_readsT (P := Tryd.prog) (ρ := renU8)
    { t5 := Tryd.underlying5, t119 := Tryd.underlying62, t138 := Tryd.underlying64, t139 := Tryd.underlying65 }
    { n3 := by kernel_rfl, n4 := by kernel_rfl, y3 := by kernel_rfl, y4 := by kernel_rfl, c5 := by kernel_rfl, c119 := by kernel_rfl, c138 := by kernel_rfl }
    (Lib.laidMet.reads e1 (by simp)) (Lib.laidMet.reads e2 (by simp))

example {W : World} (hL : laidMetH Tryd.prog [("unicode/utf8.acceptRanges", Rows.laid_unicode_utf8_acceptRanges), ("unicode/utf8.first", Rows.laid_unicode_utf8_first)] W) : U8T W :=
  u8_of_laid (by kernel_rfl) (by kernel_rfl) hL
end Go.Proofs.YtjpdhfolfmamcaaDoor
