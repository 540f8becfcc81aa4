/-
  The document's sum of a table, the table head's four bytes as noughts.
-/
import Derived.Test.YtlpnikolnohcaaaSumR
namespace Go.Proofs.Ytlpnikolnohcaaa
open Go Go.RowKit

/-- the bytes from 8 to before i as noughts -/
def zeroTo (l : List Int) (i : Nat) : List Int := (List.range l.length).map fun j => if 8 ≤ j ∧ j < i then 0 else l.getD j 0

theorem zeroTo_len (l : List Int) (i : Nat) : (zeroTo l i).length = l.length := by simp [zeroTo]
theorem zeroTo_get (l : List Int) (i j : Nat) (h : j < l.length) : (zeroTo l i)[j]'(by rw [zeroTo_len]; exact h) = if 8 ≤ j ∧ j < i then 0 else l[j] := by
  simp [zeroTo, h]
theorem zeroTo_eight (l : List Int) : zeroTo l 8 = l := by
  apply List.ext_getElem (zeroTo_len l 8)
  intro j h1 h2
  rw [zeroTo_get l 8 j h2, if_neg (by omega)]
theorem zeroTo_end (l : List Int) (i : Nat) (h : l.length ≤ i) (h12 : i ≤ 12) : zeroTo l i = zeroTo l 12 := by
  apply List.ext_getElem (by rw [zeroTo_len, zeroTo_len])
  intro j h1 h2
  have hj : j < l.length := by rw [zeroTo_len] at h1; exact h1
  rw [zeroTo_get l i j hj, zeroTo_get l 12 j hj]
  by_cases h8 : 8 ≤ j
  · rw [if_pos ⟨h8, by omega⟩, if_pos ⟨h8, by omega⟩]
  · rw [if_neg (by omega), if_neg (by omega)]
theorem zeroTo_b {l : List Int} (h : AllB l) (i : Nat) : AllB (zeroTo l i) := by
  intro x hx
  simp only [zeroTo, List.mem_map, List.mem_range] at hx
  obtain ⟨j, hj, rfl⟩ := hx
  split
  · omega
  · exact getD_b h j

/-- a table's sum -/
def sumTag (t l : List Int) : Int := sumS (if t = headT then zeroTo l 12 else l)

def STRel (w1 : World) (A : Option Addr) (l : List Int) (R : Bool) (k : Nat) (vi : Value) (wr : World) : Prop := ∃ i : Nat, i + k = 12 ∧ 8 ≤ i ∧ vi = .int .i64 (i : Int) ∧ (8 < i → R = true) ∧ Below w1.heap.size w1 wr ∧
  (l ≠ [] → ∃ g, A = some ⟨g, 0, none⟩ ∧ w1.heap.size ≤ g ∧ g < wr.heap.size ∧ ∀ j (h : j < l.length), wr.frozen? ⟨g, j, none⟩ = false ∧ wr.cell? ⟨g, j, none⟩ = some (.int .u8 ((zeroTo l i)[j]'(by rw [zeroTo_len]; exact h))))

set_option maxHeartbeats 8000000 in
set_option maxRecDepth 20000 in
theorem sumT_any (w : World) (t : List Int) (ht : AllB t) (lt : t.length = 4) (v : Value) (l : List Int) (hv : NumZ .u8 w v l) (hnn : ∀ n c, v = .slice none n c → n = 0 ∧ c = 0) (hA : AllB l) (hl : l.length ≤ 1000000) :
    Calls Try.prog 29 #[tagV t, v] w fun e w' => e = .returned (.int .u32 (sumTag t l)) ∧ Below w.heap.size w w' := by
  have HIH := Lib.hid (fun wx => isHead_any wx t ht lt)
  have HS : Hid (∀ wx vx m, NumZ .u8 wx vx m → AllB m → m.length ≤ 1000000 → Calls Try.prog 36 #[vx] wx fun e w' => e = .returned (.int .u32 (sumS m)) ∧ Below wx.heap.size wx w') := Lib.hid (fun wx vx m h1 h2 h3 => refSum_any wx vx m h1 h2 h3)
  have HV := Lib.hid hv
  have HNN := Lib.hid hnn
  have HA := Lib.hid hA
  have HL := Lib.hid hl
  obtain ⟨tv, htv⟩ : ∃ tv, tv = (t.map fun x => Value.int .u8 x).toArray := ⟨_, rfl⟩
  have htl : tv.size = 4 := by rw [htv]; simp [lt]
  obtain ⟨a, b, c, d, rfl⟩ : ∃ a b c d, t = [a, b, c, d] := by
    match t, lt with
    | [a, b, c, d], _ => exact ⟨a, b, c, d, rfl⟩
  obtain ⟨R, hR⟩ : ∃ R, R = decide ([a, b, c, d] = headT) := ⟨_, rfl⟩
  have HR := Lib.hid hR
  rw [← hR] at HIH
  obtain ⟨Z, hZ⟩ : ∃ Z, Z = sumTag [a, b, c, d] l := ⟨_, rfl⟩
  rw [← hZ]
  have HZ : Hid ((R = true → Z = sumS (zeroTo l 12)) ∧ (R = false → Z = sumS l)) := Lib.hid (by
    rw [hZ, hR]; unfold sumTag
    constructor
    · intro h; rw [if_pos (of_decide_eq_true h)]
    · intro h; rw [if_neg (of_decide_eq_false h)])
  have HIH2 : Hid (∀ wx, Calls Try.prog 33 #[.agg #[.int .u8 a, .int .u8 b, .int .u8 c, .int .u8 d]] wx fun e w' => e = .returned (.bool R) ∧ Below wx.heap.size wx w') := HIH
  show Calls Try.prog 29 #[.agg #[.int .u8 a, .int .u8 b, .int .u8 c, .int .u8 d], v] w _
  obtain ⟨w1, hw1⟩ : ∃ w1, w.alloc (.cells #[.int .u8 a, .int .u8 b, .int .u8 c, .int .u8 d] 39) = w1 := ⟨_, rfl⟩
  have HB1 : Hid (Below w.heap.size w w1) := Lib.hid (by rw [← hw1]; exact below_alloc _ (Below.refl _ w))
  have HT1 : Hid (∀ wx, Below w1.heap.size w1 wx → wx.cell? ⟨w.heap.size, 0, none⟩ = some (.int .u8 a) ∧ wx.cell? ⟨w.heap.size, 1, none⟩ = some (.int .u8 b) ∧ wx.cell? ⟨w.heap.size, 2, none⟩ = some (.int .u8 c) ∧ wx.cell? ⟨w.heap.size, 3, none⟩ = some (.int .u8 d)) := Lib.hid (fun wx hx => by
    refine ⟨cellsAt_below ?_ hx, cellsAt_below ?_ hx, cellsAt_below ?_ hx, cellsAt_below ?_ hx⟩ <;> (rw [← hw1, cell_of_row _ w.heap.size _ _ _ _ (heap_alloc_new w _)]; rfl))
  clear HIH hR hZ ht htv htl lt hv hnn hA hl
  go_enter Try.func29, Try.ntmps29
  go_wp2_with (at_builtin; refine wp_append_b rfl _ _ rfl w1.heap.size (.slice none 0 0) [] rfl (OwnB.nil _ _) _ l rfl (HV.out.below HB1.out) HNN.out (by have := HL.out; simp; omega) (Nat.le_refl _) ?_)
  intro v2 w2 how2 hk2
  have HB2 := Lib.hid (hk2 _ (Below.refl _ w1))
  obtain ⟨⟨A, c2, hv2⟩, _⟩ := ownB_cases how2
  have hrd : NumZ .u8 w2 (.slice A l.length c2) l := by have h := how2.read; rw [hv2] at h; exact h
  have hown : w2.ownsRow w1.heap.size 5 1 (.slice A l.length c2) l.length (l.map fun d : Int => Value.int .u8 d) := by rw [hv2] at how2; exact how2
  have HST : Hid (STRel w1 A l R 4 (.int .i64 8) w2) := Lib.hid ⟨8, rfl, Nat.le_refl _, rfl, fun h => absurd h (Nat.lt_irrefl _), HB2.out, fun hne => by
    rcases hown.2 with ⟨_, h0⟩ | ⟨g, cap, cur, e, hb, hg, rest⟩
    · exact absurd (List.length_eq_zero_iff.1 h0) hne
    · injection e with e1 e2 e3
      subst e1
      refine ⟨g, rfl, hb, own_row_lt hg, fun j hj => ⟨hown.frozenAt j, ?_⟩⟩
      have h := hown.cells (g := g) rfl j (.int .u8 l[j]) (by simp [hj])
      rw [add_flat, Nat.zero_add] at h
      rw [h, zeroTo_get l 8 j hj, if_neg (by omega)]⟩
  have HCC : Hid (l.length ≤ c2 ∧ c2 ≤ 9223372036854775807) := Lib.hid (by
    obtain ⟨A', c', e, h1, h2, _⟩ := hrd
    injection e with _ _ e3
    subst e3
    exact ⟨h1, h2⟩)
  have hv3 : v2 = .slice A l.length c2 := hv2
  subst hv3
  obtain ⟨N, hN⟩ : ∃ N, N = l.length := ⟨_, rfl⟩
  have HN := Lib.hid hN
  rw [← hN]
  clear hk2 how2 hrd hown hN hw1 hv2
  go_wp2_with fail
  go_loopg [6] 4 (fun k vi wr => STRel w1 A l R k vi wr)
  case atStart => exact HST.out
  case round =>
    obtain ⟨i, hik, h8, rfl, hrt, hbw, hcs⟩ := hrel
    have HBW := Lib.hid hbw
    have HCS := Lib.hid hcs
    have HRT := Lib.hid hrt
    have HIK := Lib.hid hik
    have HZR : Hid (NumZ .u8 wr (.slice A N c2) (zeroTo l i)) := Lib.hid ⟨A, c2, by rw [zeroTo_len, HN.out], by rw [zeroTo_len]; exact HCC.out.1, HCC.out.2, fun hne => by
      have hl : l ≠ [] := by rintro rfl; exact hne rfl
      obtain ⟨g, rfl, _, hg, hc⟩ := hcs hl
      refine ⟨g, 0, rfl, hg, fun j hj => ?_⟩
      rw [Nat.zero_add]
      exact (hc j (by rw [zeroTo_len] at hj; exact hj)).2⟩
    have HSUM : Hid (Calls Try.prog 36 #[.slice A N c2] wr fun e w' => e = .returned (.int .u32 (sumS (zeroTo l i))) ∧ Below wr.heap.size wr w') := Lib.hid (HS.out wr _ _ HZR.out (zeroTo_b HA.out i) (by rw [zeroTo_len]; exact HL.out))
    have HSUM2 : Hid (∀ wx, Below wr.heap.size wr wx → Calls Try.prog 36 #[.slice A N c2] wx fun e w' => e = .returned (.int .u32 (sumS (zeroTo l i))) ∧ Below wx.heap.size wx w') := Lib.hid (fun wx hx => HS.out wx _ _ (HZR.out.below hx) (zeroTo_b HA.out i) (by rw [zeroTo_len]; exact HL.out))
    by_cases hi : i = 12
    · have hZ : Z = sumS (zeroTo l i) := by rw [hi]; exact HZ.out.1 (hrt (by omega))
      have b1 : ((i : Int) < 12) = False := eq_false (by omega)
      have HZV := Lib.hid hZ
      clear hi hZ hik h8 hrt hbw hcs
      go_wp2_with fail
      refine (HSUM.out).mono ?_
      rintro e w5 ⟨rfl, hb5⟩
      rw [← HZV.out]
      have HB5 := Lib.hid (HB1.out.trans ((HBW.out.trans (hb5.mono HBW.out.size)).mono HB1.out.size))
      clear hb5
      go_wp2_with fail
      go_ret
      exact ⟨rfl, HB5.out⟩
    · have b1 : ((i : Int) < 12) = True := eq_true (by omega)
      by_cases hin : i < N
      · have b2 : ((i : Int) < (N : Int)) = True := eq_true (by omega)
        obtain ⟨c0, c1, c2', c3⟩ := HT1.out wr hbw
        cases R with
        | false =>
          have hi8 : i = 8 := by
            rcases Nat.lt_or_ge 8 i with h | h
            · have := hrt h; cases this
            · omega
          have hZ : Z = sumS (zeroTo l i) := by rw [hi8, zeroTo_eight]; exact HZ.out.2 rfl
          have HZV := Lib.hid hZ
          clear hi hZ hik h8 hrt hbw hcs hin hi8
          go_wp2_with fail
          refine (HIH2.out _).mono ?_
          rintro e w4 ⟨rfl, hb4⟩
          have HB4 := Lib.hid hb4
          clear hb4 c0 c1 c2' c3
          go_wp2_with fail
          refine (HSUM2.out _ HB4.out).mono ?_
          rintro e w5 ⟨rfl, hb5⟩
          rw [← HZV.out]
          have HB5 := Lib.hid (HB1.out.trans ((HBW.out.trans ((HB4.out.trans (hb5.mono HB4.out.size)).mono HBW.out.size)).mono HB1.out.size))
          clear hb5
          go_wp2_with fail
          go_ret
          exact ⟨rfl, HB5.out⟩
        | true =>
          have hil : i < l.length := by have := HN.out; omega
          obtain ⟨g, rfl, hg1, hg2, hc⟩ := hcs (by rintro rfl; simp at hil)
          obtain ⟨i1, hi1⟩ : ∃ i1, i1 = i + 1 := ⟨_, rfl⟩
          have q1 : IntKind.i64.wrap ((i : Int) + 1) = (i1 : Int) := by rw [IntKind.wrap_i64]; omega
          have i0 : (0 : Int) ≤ (i : Int) := Int.natCast_nonneg _
          have iN : (i : Int) < (N : Int) := by omega
          have HC := Lib.hid hc
          have HG1 := Lib.hid hg1
          have HG2 := Lib.hid hg2
          have HI1 := Lib.hid hi1
          have HIN := Lib.hid hi
          have H8 := Lib.hid h8
          have HIL := Lib.hid hil
          clear hi hik h8 hrt hbw hcs hin hc hg1 hg2 hi1 hil
          go_wp2_with fail
          refine (HIH2.out _).mono ?_
          rintro e w4 ⟨rfl, hb4⟩
          have HB4 := Lib.hid hb4
          have hz := cellsAt_below (HC.out i HIL.out).2 hb4
          have hfz : w4.frozen? ⟨g, i, none⟩ = false := by rw [hb4.frozen (by exact HG2.out)]; exact (HC.out i HIL.out).1
          have HZC := Lib.hid hz
          obtain ⟨old, hold⟩ : ∃ old, old = (zeroTo l i)[i]'(by rw [zeroTo_len]; exact HIL.out) := ⟨_, rfl⟩
          rw [← hold] at hz
          clear hb4 c0 c1 c2' c3 hold
          go_wp2_with fail
          have HNXT : Hid (STRel w1 (some ⟨g, 0, none⟩) l true (gk - 1) (.int .i64 (i1 : Int)) (w4.setCell ⟨g, i, none⟩ (.int .u8 0))) := Lib.hid ⟨i1, by have := HIK.out; have := HIN.out; have := HI1.out; omega, by have := H8.out; have := HI1.out; omega, rfl, fun _ => rfl, (HBW.out.trans (HB4.out.mono HBW.out.size)).setCell (p := ⟨g, i, none⟩) HG1.out _, fun _ => ⟨g, rfl, HG1.out, by
              have h := ((Below.refl 0 w4).setCell (p := ⟨g, i, none⟩) (Nat.zero_le _) (.int .u8 0)).size
              have h2 := HB4.out.size
              have h3 := HG2.out
              omega, fun j hj => ⟨by rw [World.frozen?_setCell, HB4.out.frozen (by exact HG2.out)]; exact (HC.out j hj).1, by
              have hj' := cellsAt_below (HC.out j hj).2 HB4.out
              by_cases hji : j = i
              · subst hji
                rw [World.cell?_setCell_same _ _ _ HZC.out, zeroTo_get l i1 j hj, if_pos ⟨H8.out, by have := HI1.out; omega⟩]
              · rw [World.cell?_setCell_other _ _ _ _ (fun e => hji (by injection e with _ e _; exact e.symm)), hj', zeroTo_get l i j hj, zeroTo_get l i1 j hj]
                by_cases h8 : 8 ≤ j ∧ j < i
                · rw [if_pos h8, if_pos ⟨h8.1, by have := HI1.out; omega⟩]
                · rw [if_neg h8, if_neg (by have := HI1.out; omega)]⟩⟩⟩
          clear hz hfz
          go_wp2_with fail
          go_roundg (gk - 1)
          case measure => have := HIK.out; have := HIN.out; omega
          case rel => exact HNXT.out
      · have b2 : ((i : Int) < (N : Int)) = False := eq_false (by omega)
        have hZ : Z = sumS (zeroTo l i) := by
          cases hR : R with
          | true => rw [zeroTo_end l i (by have := HN.out; omega) (by omega)]; exact HZ.out.1 hR
          | false =>
            have hi8 : i = 8 := by
              rcases Nat.lt_or_ge 8 i with h | h
              · have := hrt h; rw [hR] at this; cases this
              · omega
            rw [hi8, zeroTo_eight]; exact HZ.out.2 hR
        have HZV := Lib.hid hZ
        clear hi hZ hik h8 hrt hbw hcs hin
        go_wp2_with fail
        refine (HSUM.out).mono ?_
        rintro e w5 ⟨rfl, hb5⟩
        rw [← HZV.out]
        have HB5 := Lib.hid (HB1.out.trans ((HBW.out.trans (hb5.mono HBW.out.size)).mono HB1.out.size))
        clear hb5
        go_wp2_with fail
        go_ret
        exact ⟨rfl, HB5.out⟩
end Go.Proofs.Ytlpnikolnohcaaa
