/-
  Several texts in one: Jsz, HeadR, HeadP, StrB.
-/
import Derived.Test.YtijmponhkabeiaaM3
import Derived.Test.YtijmponhkabeiaaM4
import Derived.Test.YtijmponhkabeiaaM0
import Derived.Laws.BytesArg
namespace Go.Proofs.Ytijmponhkabeiaa
open Go Go.RowKit

/-- bodies that are there -/
def BodsZ (w : World) (v : Value) (bs : List (List Int)) : Prop :=
  ∃ A c, v = .slice A bs.length c ∧ bs.length ≤ c ∧ c ≤ 9223372036854775807 ∧ (∀ b ∈ bs, AllB b) ∧ (bs ≠ [] → ∃ g off, A = some ⟨g, off, none⟩ ∧ g < w.heap.size ∧ ∀ (i : Nat) (hi : i < bs.length), ∃ vb, w.cell? ⟨g, off + i, none⟩ = some vb ∧ NumZ .u8 w vb bs[i] ∧ ∀ n c', vb = .slice none n c' → n = 0 ∧ c' = 0)

theorem BodsZ.below {w w' : World} {v : Value} {bs : List (List Int)} (h : BodsZ w v bs) (hb : Below w.heap.size w w') : BodsZ w' v bs := by
  obtain ⟨A, c, e, hc, hc2, h4, hx⟩ := h
  refine ⟨A, c, e, hc, hc2, h4, fun hne => ?_⟩
  obtain ⟨g, off, hA, hg, hcell⟩ := hx hne
  have := hb.size
  refine ⟨g, off, hA, by omega, fun i hi => ?_⟩
  obtain ⟨vb, h1, h2, h3⟩ := hcell i hi
  exact ⟨vb, by rw [hb.cell (by exact hg)]; exact h1, h2.below hb, h3⟩

/-- the size, the first i bodies counted -/
def sizeJ (bs : List (List Int)) : Nat → Nat
  | 0 => 12 + 16 * bs.length
  | i + 1 => sizeJ bs i + upN (bs.getD i []).length

theorem sizeJ_le (bs : List (List Int)) (i : Nat) : ∀ k, sizeJ bs i ≤ sizeJ bs (i + k)
  | 0 => Nat.le_refl _
  | k + 1 => Nat.le_trans (sizeJ_le bs i k) (Nat.le_add_right _ _)

set_option maxHeartbeats 4000000 in
set_option maxRecDepth 20000 in
theorem joinedSize_any (w : World) (v : Value) (bs : List (List Int)) (hv : BodsZ w v bs) (hsz : sizeJ bs bs.length ≤ 1000000) :
    Calls Try.prog 60 #[v] w fun e w' => e = .returned (.int .i64 ((sizeJ bs bs.length : Nat) : Int)) ∧ Below w.heap.size w w' := by
  have HV := Lib.hid hv
  obtain ⟨A, c, rfl, _, _, h4, hcell⟩ := hv
  have hlen : 12 + 16 * bs.length ≤ 1000000 := Nat.le_trans (by have := sizeJ_le bs 0 bs.length; rwa [Nat.zero_add] at this) hsz
  have HBG := Lib.hid (begin_any w bs.length (by omega))
  have HFL := Lib.hid (fun w n h => filled_any w n h)
  have HOK := Lib.hid (fun w => require_ok w 3)
  obtain ⟨N, hN⟩ : ∃ N, N = bs.length := ⟨_, rfl⟩
  have HN := Lib.hid hN
  have HSZ := Lib.hid hsz
  rw [← hN] at HV HBG hlen HSZ ⊢
  obtain ⟨s0, hs0⟩ : ∃ s0, s0 = 12 + 16 * N := ⟨_, rfl⟩
  rw [← hs0] at HBG
  have HS0 : Hid (s0 = sizeJ bs 0) := Lib.hid (by rw [hs0, hN]; rfl)
  obtain ⟨SN, hSN⟩ : ∃ SN, SN = sizeJ bs N := ⟨_, rfl⟩
  have HSN := Lib.hid hSN
  rw [← hSN]
  clear h4 hcell hN hsz hs0 hSN
  have HLN := Lib.hid hlen
  clear hlen
  go_enter Try.func60, Try.ntmps60
  go_wp2_with fail
  refine (HBG.out).mono ?_
  rintro e w1 ⟨rfl, rfl⟩
  go_wp2_with fail
  go_loopg [3, 11] N (fun k vs vi wr => ∃ i : Nat, i + k = N ∧ vs = .int .i64 ((sizeJ bs i : Nat) : Int) ∧ vi = .int .i64 (i : Int) ∧ Below w.heap.size w wr)
  case atStart => exact ⟨0, by omega, by rw [HS0.out], rfl, Below.refl _ _⟩
  case round =>
    obtain ⟨i, hik, rfl, rfl, hb⟩ := hrel
    have HB := Lib.hid hb
    have HIK := Lib.hid hik
    by_cases hi : i = N
    · have bi : ((i : Int) < (N : Int)) = False := eq_false (by omega)
      have HE : Hid (sizeJ bs i = SN) := Lib.hid (by rw [HSN.out, hi])
      generalize sizeJ bs i = x at HE ⊢
      clear hi hik hb
      go_wp2_with fail
      go_ret
      exact ⟨by rw [← HE.out]; rfl, HB.out⟩
    · have bi : ((i : Int) < (N : Int)) = True := eq_true (by omega)
      have i0 : (0 : Int) ≤ (i : Int) := Int.natCast_nonneg _
      have iN : (i : Int) < (N : Int) := by omega
      have hil : i < bs.length := by have := HN.out; omega
      obtain ⟨A2, c2, e2, _, _, _, hcs⟩ := HV.out.below hb
      injection e2 with e3 e4 e5
      subst e3
      clear e4 e5
      obtain ⟨g, off, rfl, _, hcs⟩ := hcs (by rintro rfl; simp at hil)
      obtain ⟨vb, hvb, hz, _⟩ := hcs i hil
      obtain ⟨A3, c3, rfl, _, _, _⟩ := hz
      have hle := sizeJ_le bs (i + 1) (N - (i + 1))
      rw [show i + 1 + (N - (i + 1)) = N by omega] at hle
      have hSM := HSZ.out
      have hnx : sizeJ bs (i + 1) = sizeJ bs i + upN bs[i].length := by
        show sizeJ bs i + upN (bs.getD i []).length = _
        rw [List.getD_eq_getElem?_getD, List.getElem?_eq_getElem hil]; rfl
      have hup := upN_le bs[i].length
      obtain ⟨m, hm⟩ : ∃ m, m = bs[i].length := ⟨_, rfl⟩
      rw [← hm] at hnx hup hvb
      obtain ⟨y, hy⟩ : ∃ y, y = sizeJ bs (i + 1) := ⟨_, rfl⟩
      rw [← hy] at hnx hle
      obtain ⟨x, hx⟩ : ∃ x, x = sizeJ bs i := ⟨_, rfl⟩
      rw [← hx] at hnx ⊢
      obtain ⟨u, hu⟩ : ∃ u, u = upN m := ⟨_, rfl⟩
      have HFLm := Lib.hid (fun w => HFL.out w m (by omega))
      have HFL2 : Hid (∀ w, Calls Try.prog 63 #[.int .i64 (m : Int)] w fun e w' => e = .returned (.int .i64 (u : Int)) ∧ w = w') := Lib.hid (fun w => by rw [hu]; exact HFLm.out w)
      rw [← hu] at hnx hup
      have q1 : IntKind.i64.wrap ((x : Int) + (u : Int)) = (y : Int) := by rw [IntKind.wrap_i64]; omega
      have q2 : IntKind.i64.wrap ((i : Int) + 1) = ((i + 1 : Nat) : Int) := by rw [IntKind.wrap_i64]; have := HLN.out; omega
      have b2 : ((y : Int) ≤ 16777216) = True := eq_true (by omega)
      have HY := Lib.hid hy
      have HIN := Lib.hid hi
      clear hi hik hb hcs hle hSM hnx hup hm hx hu hy HFLm
      go_wp2_with fail
      refine (HFL2.out _).mono ?_
      rintro e w2 ⟨rfl, rfl⟩
      go_wp2_with fail
      refine (HOK.out _).mono ?_
      rintro e w3 ⟨rfl, rfl⟩
      go_wp2_with fail
      go_roundg (gk - 1)
      case measure => have := HIK.out; have := HIN.out; omega
      case rel => exact ⟨i + 1, by have := HIK.out; have := HIN.out; omega, by rw [← HY.out], rfl, HB.out⟩
end Go.Proofs.Ytijmponhkabeiaa

namespace Go.Proofs.Ytijmponhkabeiaa
open Go Go.RowKit

/-- is it no table head? -/
def badHead (l : List Int) : Bool := decide (l.length ≠ 54) || (decide (numAt l 0 4 ≠ 65536) || (decide (numAt l 12 4 ≠ 1594834165) || (decide (numAt l 18 2 < 16) || (decide (16384 < numAt l 18 2) || decide (1 < numAt l 50 2)))))

/-- the units of the em, the error's number -/
def headS (l : List Int) : Int × Int := if badHead l then (0, 50) else (numAt l 18 2, 0)

set_option maxHeartbeats 4000000 in
set_option maxRecDepth 20000 in
theorem refHead_any (w : World) (v : Value) (l : List Int) (hv : NumZ .u8 w v l) (hA : AllB l) (hl : l.length ≤ 1000000) :
    Calls Try.prog 17 #[v] w fun e w' => e = .returned (.tuple #[.int .u16 (headS l).1, .int .i64 (headS l).2]) ∧ Below w.heap.size w w' := by
  have HL : Hid (∀ wx, Below w.heap.size w wx → ∀ p, Calls Try.prog 27 #[v, .int .i64 p] wx fun e w' => e = .returned (.int .i64 (numAt l p 4)) ∧ Below wx.heap.size wx w') := Lib.hid (fun wx hb p => l_any wx v l (hv.below hb) hA hl p)
  have HW : Hid (∀ wx, Below w.heap.size w wx → ∀ p, Calls Try.prog 25 #[v, .int .i64 p] wx fun e w' => e = .returned (.int .i64 (numAt l p 2)) ∧ Below wx.heap.size wx w') := Lib.hid (fun wx hb p => w_any wx v l (hv.below hb) hA hl p)
  obtain ⟨A, c, rfl, _, _, _⟩ := hv
  rename_i g1 g2 g3
  obtain ⟨q, hq⟩ : ∃ q, q = headS l := ⟨_, rfl⟩
  rw [← hq]
  obtain ⟨a, ha⟩ : ∃ a, a = numAt l 0 4 := ⟨_, rfl⟩
  obtain ⟨b, hb⟩ : ∃ b, b = numAt l 12 4 := ⟨_, rfl⟩
  obtain ⟨u, hu⟩ : ∃ u, u = numAt l 18 2 := ⟨_, rfl⟩
  obtain ⟨d, hd⟩ : ∃ d, d = numAt l 50 2 := ⟨_, rfl⟩
  have hub := numAt_b hA 18 2
  rw [← hu] at hub
  have hwu : IntKind.u16.wrap u = u := by rw [wrap_u16]; omega
  unfold headS badHead at hq
  rw [← ha, ← hb, ← hu, ← hd] at hq
  have HA := Lib.hid ha
  have HB := Lib.hid hb
  have HU := Lib.hid hu
  have HD := Lib.hid hd
  have HB0 := Lib.hid (Below.refl w.heap.size w)
  obtain ⟨N, hN⟩ : ∃ N, N = l.length := ⟨_, rfl⟩
  rw [← hN] at HL HW hq ⊢
  clear g1 g2 g3 ha hb hu hd hub hA hl hN
  by_cases h0 : N ≠ 54
  · have b0 : ((N : Int) != 54) = true := by simp; omega
    have HQ : Hid (q = (0, 50)) := Lib.hid (by rw [hq]; simp [h0])
    clear hq h0
    go_enter Try.func17, Try.ntmps17
    go_wp2_with fail
    go_ret2
    exact ⟨by rw [HQ.out]; rfl, HB0.out⟩
  · have b0 : ((N : Int) != 54) = false := by simp; omega
    by_cases h1 : a ≠ 65536
    · have b1 : (a != 65536) = true := by simp; omega
      have HQ : Hid (q = (0, 50)) := Lib.hid (by rw [hq]; simp [h0, h1])
      clear hq h0 h1
      go_enter Try.func17, Try.ntmps17
      go_wp2_with fail
      refine (HL.out _ HB0.out _).mono ?_
      rintro e w1 ⟨rfl, hb⟩
      rw [← HA.out]
      have HX1 := Lib.hid (HB0.out.trans (hb.mono HB0.out.size))
      clear hb
      go_wp2_with fail
      go_ret2
      exact ⟨by rw [HQ.out]; rfl, HX1.out⟩
    · have b1 : (a != 65536) = false := by simp; omega
      by_cases h2 : b ≠ 1594834165
      · have b2 : (b != 1594834165) = true := by simp; omega
        have HQ : Hid (q = (0, 50)) := Lib.hid (by rw [hq]; simp [h0, h1, h2])
        clear hq h0 h1 h2
        go_enter Try.func17, Try.ntmps17
        go_wp2_with fail
        refine (HL.out _ HB0.out _).mono ?_
        rintro e w1 ⟨rfl, hb⟩
        rw [← HA.out]
        have HX1 := Lib.hid (HB0.out.trans (hb.mono HB0.out.size))
        clear hb
        go_wp2_with fail
        refine (HL.out _ HX1.out _).mono ?_
        rintro e w2 ⟨rfl, hb⟩
        rw [← HB.out]
        have HX2 := Lib.hid (HX1.out.trans (hb.mono HX1.out.size))
        clear hb
        go_wp2_with fail
        go_ret2
        exact ⟨by rw [HQ.out]; rfl, HX2.out⟩
      · have b2 : (b != 1594834165) = false := by simp; omega
        by_cases h3 : u < 16
        · have b3 : (u < 16) = True := eq_true h3
          have HQ : Hid (q = (0, 50)) := Lib.hid (by rw [hq]; simp [h0, h1, h2, h3])
          clear hq h0 h1 h2 h3
          go_enter Try.func17, Try.ntmps17
          go_wp2_with fail
          refine (HL.out _ HB0.out _).mono ?_
          rintro e w1 ⟨rfl, hb⟩
          rw [← HA.out]
          have HX1 := Lib.hid (HB0.out.trans (hb.mono HB0.out.size))
          clear hb
          go_wp2_with fail
          refine (HL.out _ HX1.out _).mono ?_
          rintro e w2 ⟨rfl, hb⟩
          rw [← HB.out]
          have HX2 := Lib.hid (HX1.out.trans (hb.mono HX1.out.size))
          clear hb
          go_wp2_with fail
          refine (HW.out _ HX2.out _).mono ?_
          rintro e w3 ⟨rfl, hb⟩
          rw [← HU.out]
          have HX3 := Lib.hid (HX2.out.trans (hb.mono HX2.out.size))
          clear hb
          go_wp2_with fail
          go_ret2
          exact ⟨by rw [HQ.out]; rfl, HX3.out⟩
        · have b3 : (u < 16) = False := eq_false h3
          by_cases h4 : 16384 < u
          · have b4 : (16384 < u) = True := eq_true h4
            have HQ : Hid (q = (0, 50)) := Lib.hid (by rw [hq]; simp [h0, h1, h2, h3, h4])
            clear hq h0 h1 h2 h3 h4
            go_enter Try.func17, Try.ntmps17
            go_wp2_with fail
            refine (HL.out _ HB0.out _).mono ?_
            rintro e w1 ⟨rfl, hb⟩
            rw [← HA.out]
            have HX1 := Lib.hid (HB0.out.trans (hb.mono HB0.out.size))
            clear hb
            go_wp2_with fail
            refine (HL.out _ HX1.out _).mono ?_
            rintro e w2 ⟨rfl, hb⟩
            rw [← HB.out]
            have HX2 := Lib.hid (HX1.out.trans (hb.mono HX1.out.size))
            clear hb
            go_wp2_with fail
            refine (HW.out _ HX2.out _).mono ?_
            rintro e w3 ⟨rfl, hb⟩
            rw [← HU.out]
            have HX3 := Lib.hid (HX2.out.trans (hb.mono HX2.out.size))
            clear hb
            go_wp2_with fail
            refine (HW.out _ HX3.out _).mono ?_
            rintro e w4 ⟨rfl, hb⟩
            rw [← HU.out]
            have HX4 := Lib.hid (HX3.out.trans (hb.mono HX3.out.size))
            clear hb
            go_wp2_with fail
            go_ret2
            exact ⟨by rw [HQ.out]; rfl, HX4.out⟩
          · have b4 : (16384 < u) = False := eq_false h4
            by_cases h5 : 1 < d
            · have b5 : (1 < d) = True := eq_true h5
              have HQ : Hid (q = (0, 50)) := Lib.hid (by rw [hq]; simp [h0, h1, h2, h3, h4, h5])
              clear hq h0 h1 h2 h3 h4 h5
              go_enter Try.func17, Try.ntmps17
              go_wp2_with fail
              refine (HL.out _ HB0.out _).mono ?_
              rintro e w1 ⟨rfl, hb⟩
              rw [← HA.out]
              have HX1 := Lib.hid (HB0.out.trans (hb.mono HB0.out.size))
              clear hb
              go_wp2_with fail
              refine (HL.out _ HX1.out _).mono ?_
              rintro e w2 ⟨rfl, hb⟩
              rw [← HB.out]
              have HX2 := Lib.hid (HX1.out.trans (hb.mono HX1.out.size))
              clear hb
              go_wp2_with fail
              refine (HW.out _ HX2.out _).mono ?_
              rintro e w3 ⟨rfl, hb⟩
              rw [← HU.out]
              have HX3 := Lib.hid (HX2.out.trans (hb.mono HX2.out.size))
              clear hb
              go_wp2_with fail
              refine (HW.out _ HX3.out _).mono ?_
              rintro e w4 ⟨rfl, hb⟩
              rw [← HU.out]
              have HX4 := Lib.hid (HX3.out.trans (hb.mono HX3.out.size))
              clear hb
              go_wp2_with fail
              refine (HW.out _ HX4.out _).mono ?_
              rintro e w5 ⟨rfl, hb⟩
              rw [← HD.out]
              have HX5 := Lib.hid (HX4.out.trans (hb.mono HX4.out.size))
              clear hb
              go_wp2_with fail
              go_ret2
              exact ⟨by rw [HQ.out]; rfl, HX5.out⟩
            · have b5 : (1 < d) = False := eq_false h5
              have HQ : Hid (q = (u, 0)) := Lib.hid (by rw [hq]; simp [h0, h1, h2, h3, h4, h5])
              clear hq h0 h1 h2 h3 h4 h5
              go_enter Try.func17, Try.ntmps17
              go_wp2_with fail
              refine (HL.out _ HB0.out _).mono ?_
              rintro e w1 ⟨rfl, hb⟩
              rw [← HA.out]
              have HX1 := Lib.hid (HB0.out.trans (hb.mono HB0.out.size))
              clear hb
              go_wp2_with fail
              refine (HL.out _ HX1.out _).mono ?_
              rintro e w2 ⟨rfl, hb⟩
              rw [← HB.out]
              have HX2 := Lib.hid (HX1.out.trans (hb.mono HX1.out.size))
              clear hb
              go_wp2_with fail
              refine (HW.out _ HX2.out _).mono ?_
              rintro e w3 ⟨rfl, hb⟩
              rw [← HU.out]
              have HX3 := Lib.hid (HX2.out.trans (hb.mono HX2.out.size))
              clear hb
              go_wp2_with fail
              refine (HW.out _ HX3.out _).mono ?_
              rintro e w4 ⟨rfl, hb⟩
              rw [← HU.out]
              have HX4 := Lib.hid (HX3.out.trans (hb.mono HX3.out.size))
              clear hb
              go_wp2_with fail
              refine (HW.out _ HX4.out _).mono ?_
              rintro e w5 ⟨rfl, hb⟩
              rw [← HD.out]
              have HX5 := Lib.hid (HX4.out.trans (hb.mono HX4.out.size))
              clear hb
              go_wp2_with fail
              refine (HW.out _ HX5.out _).mono ?_
              rintro e w9 ⟨rfl, hb⟩
              rw [← HU.out]
              have HX9 := Lib.hid (HX5.out.trans (hb.mono HX5.out.size))
              clear hb
              go_wp2_with fail
              go_ret2
              exact ⟨by rw [HQ.out]; rfl, HX9.out⟩
end Go.Proofs.Ytijmponhkabeiaa

namespace Go.Proofs.Ytijmponhkabeiaa
open Go Go.RowKit

theorem numAt2 (l : List Int) (p : Nat) (h : p + 1 < l.length) : numAt l (p : Int) 2 = wordAt l p := by
  unfold numAt wordAt
  rw [if_pos (by unfold allB; rw [decide_eq_true_eq]; omega)]
  simp [numF]

theorem numAt4 (l : List Int) (p : Nat) (h : p + 3 < l.length) : numAt l (p : Int) 4 = wordAt l p * 65536 + wordAt l (p + 2) := by
  unfold numAt wordAt
  rw [if_pos (by unfold allB; rw [decide_eq_true_eq]; omega)]
  simp only [numF, Int.toNat_natCast, Nat.add_zero]
  rw [show p + 2 + 1 = p + 3 by omega]
  omega

/-- W, L of bytes that are there -/
theorem rdW (w : World) (r : Value) (l : List Int) (hr : RdZ w r l) (hA : AllB l) (hl : l.length ≤ 1000000000) (p : Nat) (h : p + 1 < l.length) :
    Calls Try.prog 47 #[r, .int .i64 (p : Int)] w fun e w' => e = .returned (.int .u16 (numAt l (p : Int) 2)) ∧ Below w.heap.size w w' := by
  rw [numAt2 l p h]
  exact rd_word2 w r l hr hA hl p h

theorem rdI (w : World) (r : Value) (l : List Int) (hr : RdZ w r l) (hA : AllB l) (hl : l.length ≤ 1000000000) (p : Nat) (h : p + 1 < l.length) :
    Calls Try.prog 44 #[r, .int .i64 (p : Int)] w fun e w' => e = .returned (.int .i16 (IntKind.i16.wrap (numAt l (p : Int) 2))) ∧ Below w.heap.size w w' := by
  rw [numAt2 l p h]
  exact rd_int w r l hr hA hl p h

theorem rdL (w : World) (r : Value) (l : List Int) (hr : RdZ w r l) (hA : AllB l) (hl : l.length ≤ 1000000000) (p : Nat) (h : p + 3 < l.length) :
    Calls Try.prog 52 #[r, .int .i64 (p : Int)] w fun e w' => e = .returned (.int .u32 (numAt l (p : Int) 4)) ∧ Below w.heap.size w w' := by
  rw [numAt4 l p h]
  exact rd_long w r l hr hA hl p h

set_option maxRecDepth 20000 in
theorem sound_ok (w : World) (r : Value) (l : List Int) (hr : RdZ w r l) : Calls Try.prog 67 #[r] w fun e w' => e = .returned (.tuple #[]) ∧ w = w' := by
  have HB := Lib.hid (rd_bad w r l hr)
  have HR := Lib.hid (reqFont_ok w)
  clear hr
  go_enter Try.func67, Try.ntmps67
  go_wp2_with fail
  refine (HB.out).mono ?_
  rintro e w' ⟨rfl, rfl⟩
  go_wp2_with fail
  refine (HR.out).mono ?_
  rintro e w' ⟨rfl, rfl⟩
  go_wp2_with fail
  go_returns
  exact ⟨rfl, rfl⟩

set_option maxRecDepth 20000 in
theorem bad_nil (w : World) : Calls Try.prog 73 #[.pointer none] w fun e w' => e = .returned (.bool true) ∧ w = w' := by
  go_enter Try.func73, Try.ntmps73
  go_wp2_with fail
  go_ret
  exact ⟨rfl, rfl⟩

set_option maxRecDepth 20000 in
theorem sound_nil (w : World) : Calls Try.prog 67 #[.pointer none] w fun e w' => e = gone 50 ∧ w = w' := by
  have HB := Lib.hid (bad_nil w)
  have HR := Lib.hid (reqFont_bad w)
  go_enter Try.func67, Try.ntmps67
  go_wp2_with fail
  refine (HB.out).mono ?_
  rintro e w' ⟨rfl, rfl⟩
  go_wp2_with fail
  refine (HR.out).mono ?_
  rintro e w' ⟨rfl, rfl⟩
  exact ⟨rfl, rfl, rfl⟩

set_option maxRecDepth 20000 in
theorem size_nil (w : World) (n : Int) : Calls Try.prog 66 #[.pointer none, .int .i64 n] w fun e w' => e = gone 50 ∧ w = w' := by
  have HB := Lib.hid (sound_nil w)
  go_enter Try.func66, Try.ntmps66
  go_wp2_with fail
  refine (HB.out).mono ?_
  rintro e w' ⟨rfl, rfl⟩
  exact ⟨rfl, rfl, rfl⟩

set_option maxRecDepth 20000 in
theorem size_ok (w : World) (r : Value) (l : List Int) (hr : RdZ w r l) (n : Int) (hn : (l.length : Int) = n) : Calls Try.prog 66 #[r, .int .i64 n] w fun e w' => e = .returned (.tuple #[]) ∧ w = w' := by
  have HS := Lib.hid (sound_ok w r l hr)
  have HL := Lib.hid (rd_len w r l hr)
  have HR := Lib.hid (reqFont_ok w)
  rw [hn] at HL
  have b1 : (n == n) = true := by simp
  clear hr hn
  go_enter Try.func66, Try.ntmps66
  go_wp2_with fail
  refine (HS.out).mono ?_
  rintro e w' ⟨rfl, rfl⟩
  go_wp2_with fail
  refine (HL.out).mono ?_
  rintro e w' ⟨rfl, rfl⟩
  go_wp2_with fail
  refine (HR.out).mono ?_
  rintro e w' ⟨rfl, rfl⟩
  go_wp2_with fail
  go_returns
  exact ⟨rfl, rfl⟩

set_option maxRecDepth 20000 in
theorem size_bad (w : World) (r : Value) (l : List Int) (hr : RdZ w r l) (n : Int) (hn : ¬ (l.length : Int) = n) : Calls Try.prog 66 #[r, .int .i64 n] w fun e w' => e = gone 50 ∧ w = w' := by
  have HS := Lib.hid (sound_ok w r l hr)
  have HL := Lib.hid (rd_len w r l hr)
  have HR := Lib.hid (reqFont_bad w)
  generalize (l.length : Int) = N at HL hn
  have b1 : (N == n) = false := by simp [hn]
  clear hr hn
  go_enter Try.func66, Try.ntmps66
  go_wp2_with fail
  refine (HS.out).mono ?_
  rintro e w' ⟨rfl, rfl⟩
  go_wp2_with fail
  refine (HL.out).mono ?_
  rintro e w' ⟨rfl, rfl⟩
  go_wp2_with fail
  refine (HR.out).mono ?_
  rintro e w' ⟨rfl, rfl⟩
  exact ⟨rfl, rfl, rfl⟩

set_option maxHeartbeats 4000000 in
set_option maxRecDepth 20000 in
theorem unitsOf_any (w : World) (r : Value) (l : List Int) (hr : RdZ w r l) (hA : AllB l) :
    Calls Try.prog 38 #[r] w fun e w' => Below w.heap.size w w' ∧ ((badHead l = false ∧ e = .returned (.int .u16 (numAt l 18 2))) ∨ (badHead l = true ∧ e = gone 50)) := by
  by_cases h0 : (l.length : Int) = 54
  · have HZ := Lib.hid (size_ok w r l hr 54 h0)
    have HLa : Hid (∀ wx, Below w.heap.size w wx → Calls Try.prog 52 #[r, .int .i64 0] wx fun e w' => e = .returned (.int .u32 (numAt l 0 4)) ∧ Below wx.heap.size wx w') := Lib.hid (fun wx hb => rdL wx r l (hr.below hb) hA (by omega) 0 (by omega))
    have HLb : Hid (∀ wx, Below w.heap.size w wx → Calls Try.prog 52 #[r, .int .i64 12] wx fun e w' => e = .returned (.int .u32 (numAt l 12 4)) ∧ Below wx.heap.size wx w') := Lib.hid (fun wx hb => rdL wx r l (hr.below hb) hA (by omega) 12 (by omega))
    have HWu : Hid (∀ wx, Below w.heap.size w wx → Calls Try.prog 47 #[r, .int .i64 18] wx fun e w' => e = .returned (.int .u16 (numAt l 18 2)) ∧ Below wx.heap.size wx w') := Lib.hid (fun wx hb => rdW wx r l (hr.below hb) hA (by omega) 18 (by omega))
    have HWd : Hid (∀ wx, Below w.heap.size w wx → Calls Try.prog 44 #[r, .int .i64 50] wx fun e w' => e = .returned (.int .i16 (IntKind.i16.wrap (numAt l 50 2))) ∧ Below wx.heap.size wx w') := Lib.hid (fun wx hb => rdI wx r l (hr.below hb) hA (by omega) 50 (by omega))
    have HOK := Lib.hid (fun wx => reqFont_ok wx)
    have HNO := Lib.hid (fun wx => reqFont_bad wx)
    obtain ⟨bd, hbd⟩ : ∃ bd, bd = badHead l := ⟨_, rfl⟩
    rw [← hbd]
    unfold badHead at hbd
    have hub := numAt_b hA 50 2
    have hl54 : l.length = 54 := by omega
    generalize numAt l 0 4 = a at HLa hbd
    generalize numAt l 12 4 = b at HLb hbd
    generalize numAt l 18 2 = u at HWu hbd ⊢
    generalize numAt l 50 2 = d at HWd hbd hub
    obtain ⟨s, hs⟩ : ∃ s, s = IntKind.i16.wrap d := ⟨_, rfl⟩
    rw [← hs] at HWd
    have hs0 : s = 0 ↔ d = 0 := by rw [hs, wrap_i16]; omega
    have hs1 : s = 1 ↔ d = 1 := by rw [hs, wrap_i16]; omega
    have HB0 := Lib.hid (Below.refl w.heap.size w)
    clear hr hA hs h0
    by_cases h1 : a = 65536
    · have b1 : (a == 65536) = true := by simp [h1]
      by_cases h2 : b = 1594834165
      · have b2 : (b == 1594834165) = true := by simp [h2]
        by_cases h3 : 16 ≤ u
        · have b3 : (16 ≤ u) = True := eq_true h3
          by_cases h4 : u ≤ 16384
          · have b4 : (u ≤ 16384) = True := eq_true h4
            by_cases h5 : d = 0
            · have b5 : (s == 0) = true := by simp [hs0.2 h5]
              have HV : Hid (bd = false) := Lib.hid (by rw [hbd]; simp [hl54, h1, h2, h5, show ¬ u < 16 by omega, show ¬ 16384 < u by omega])
              clear h1 h2 h3 h4 h5
              clear hbd hub hs0 hs1 hl54
              go_enter Try.func38, Try.ntmps38
              go_wp2_with fail
              refine (HZ.out).mono ?_
              rintro e w0 ⟨rfl, rfl⟩
              have HX0 := HB0
              go_wp2_with fail
              refine (HLa.out _ HX0.out).mono ?_
              rintro e w1 ⟨rfl, hb⟩
              have HX1 := Lib.hid (HX0.out.trans (hb.mono HX0.out.size))
              clear hb
              go_wp2_with fail
              refine (HLb.out _ HX1.out).mono ?_
              rintro e w2 ⟨rfl, hb⟩
              have HX2 := Lib.hid (HX1.out.trans (hb.mono HX1.out.size))
              clear hb
              go_wp2_with fail
              refine (HOK.out _).mono ?_
              rintro e wq ⟨rfl, rfl⟩
              go_wp2_with fail
              refine (HWu.out _ HX2.out).mono ?_
              rintro e w3 ⟨rfl, hb⟩
              have HX3 := Lib.hid (HX2.out.trans (hb.mono HX2.out.size))
              clear hb
              go_wp2_with fail
              refine (HWd.out _ HX3.out).mono ?_
              rintro e w4 ⟨rfl, hb⟩
              have HX4 := Lib.hid (HX3.out.trans (hb.mono HX3.out.size))
              clear hb
              go_wp2_with fail
              refine (HOK.out _).mono ?_
              rintro e wq ⟨rfl, rfl⟩
              go_wp2_with fail
              refine (HOK.out _).mono ?_
              rintro e wq ⟨rfl, rfl⟩
              go_wp2_with fail
              go_ret
              exact ⟨HX4.out, .inl ⟨HV.out, rfl⟩⟩
            · have b5 : (s == 0) = false := by simp [hs0, h5]
              by_cases h6 : d = 1
              · have b6 : (s == 1) = true := by simp [hs1.2 h6]
                have HV : Hid (bd = false) := Lib.hid (by rw [hbd]; simp [hl54, h1, h2, h6, show ¬ u < 16 by omega, show ¬ 16384 < u by omega])
                clear h1 h2 h3 h4 h5 h6
                clear hbd hub hs0 hs1 hl54
                go_enter Try.func38, Try.ntmps38
                go_wp2_with fail
                refine (HZ.out).mono ?_
                rintro e w0 ⟨rfl, rfl⟩
                have HX0 := HB0
                go_wp2_with fail
                refine (HLa.out _ HX0.out).mono ?_
                rintro e w1 ⟨rfl, hb⟩
                have HX1 := Lib.hid (HX0.out.trans (hb.mono HX0.out.size))
                clear hb
                go_wp2_with fail
                refine (HLb.out _ HX1.out).mono ?_
                rintro e w2 ⟨rfl, hb⟩
                have HX2 := Lib.hid (HX1.out.trans (hb.mono HX1.out.size))
                clear hb
                go_wp2_with fail
                refine (HOK.out _).mono ?_
                rintro e wq ⟨rfl, rfl⟩
                go_wp2_with fail
                refine (HWu.out _ HX2.out).mono ?_
                rintro e w3 ⟨rfl, hb⟩
                have HX3 := Lib.hid (HX2.out.trans (hb.mono HX2.out.size))
                clear hb
                go_wp2_with fail
                refine (HWd.out _ HX3.out).mono ?_
                rintro e w4 ⟨rfl, hb⟩
                have HX4 := Lib.hid (HX3.out.trans (hb.mono HX3.out.size))
                clear hb
                go_wp2_with fail
                refine (HOK.out _).mono ?_
                rintro e wq ⟨rfl, rfl⟩
                go_wp2_with fail
                refine (HOK.out _).mono ?_
                rintro e wq ⟨rfl, rfl⟩
                go_wp2_with fail
                go_ret
                exact ⟨HX4.out, .inl ⟨HV.out, rfl⟩⟩
              · have b6 : (s == 1) = false := by simp [hs1, h6]
                have HV : Hid (bd = true) := Lib.hid (by rw [hbd]; simp [hl54, show 1 < d by omega])
                clear h1 h2 h3 h4 h5 h6
                clear hbd hub hs0 hs1 hl54
                go_enter Try.func38, Try.ntmps38
                go_wp2_with fail
                refine (HZ.out).mono ?_
                rintro e w0 ⟨rfl, rfl⟩
                have HX0 := HB0
                go_wp2_with fail
                refine (HLa.out _ HX0.out).mono ?_
                rintro e w1 ⟨rfl, hb⟩
                have HX1 := Lib.hid (HX0.out.trans (hb.mono HX0.out.size))
                clear hb
                go_wp2_with fail
                refine (HLb.out _ HX1.out).mono ?_
                rintro e w2 ⟨rfl, hb⟩
                have HX2 := Lib.hid (HX1.out.trans (hb.mono HX1.out.size))
                clear hb
                go_wp2_with fail
                refine (HOK.out _).mono ?_
                rintro e wq ⟨rfl, rfl⟩
                go_wp2_with fail
                refine (HWu.out _ HX2.out).mono ?_
                rintro e w3 ⟨rfl, hb⟩
                have HX3 := Lib.hid (HX2.out.trans (hb.mono HX2.out.size))
                clear hb
                go_wp2_with fail
                refine (HWd.out _ HX3.out).mono ?_
                rintro e w4 ⟨rfl, hb⟩
                have HX4 := Lib.hid (HX3.out.trans (hb.mono HX3.out.size))
                clear hb
                go_wp2_with fail
                refine (HOK.out _).mono ?_
                rintro e wq ⟨rfl, rfl⟩
                go_wp2_with fail
                refine (HNO.out _).mono ?_
                rintro e wq ⟨rfl, rfl⟩
                exact ⟨rfl, HX4.out, .inr ⟨HV.out, rfl⟩⟩
          · have b4 : (u ≤ 16384) = False := eq_false h4
            have HV : Hid (bd = true) := Lib.hid (by rw [hbd]; simp [hl54, show 16384 < u by omega])
            clear h1 h2 h3 h4
            clear hbd hub hs0 hs1 hl54
            go_enter Try.func38, Try.ntmps38
            go_wp2_with fail
            refine (HZ.out).mono ?_
            rintro e w0 ⟨rfl, rfl⟩
            have HX0 := HB0
            go_wp2_with fail
            refine (HLa.out _ HX0.out).mono ?_
            rintro e w1 ⟨rfl, hb⟩
            have HX1 := Lib.hid (HX0.out.trans (hb.mono HX0.out.size))
            clear hb
            go_wp2_with fail
            refine (HLb.out _ HX1.out).mono ?_
            rintro e w2 ⟨rfl, hb⟩
            have HX2 := Lib.hid (HX1.out.trans (hb.mono HX1.out.size))
            clear hb
            go_wp2_with fail
            refine (HOK.out _).mono ?_
            rintro e wq ⟨rfl, rfl⟩
            go_wp2_with fail
            refine (HWu.out _ HX2.out).mono ?_
            rintro e w3 ⟨rfl, hb⟩
            have HX3 := Lib.hid (HX2.out.trans (hb.mono HX2.out.size))
            clear hb
            go_wp2_with fail
            refine (HWd.out _ HX3.out).mono ?_
            rintro e w4 ⟨rfl, hb⟩
            have HX4 := Lib.hid (HX3.out.trans (hb.mono HX3.out.size))
            clear hb
            go_wp2_with fail
            refine (HNO.out _).mono ?_
            rintro e wq ⟨rfl, rfl⟩
            exact ⟨rfl, HX4.out, .inr ⟨HV.out, rfl⟩⟩
        · have b3 : (16 ≤ u) = False := eq_false h3
          have HV : Hid (bd = true) := Lib.hid (by rw [hbd]; simp [hl54, show u < 16 by omega])
          clear h1 h2 h3
          clear hbd hub hs0 hs1 hl54
          go_enter Try.func38, Try.ntmps38
          go_wp2_with fail
          refine (HZ.out).mono ?_
          rintro e w0 ⟨rfl, rfl⟩
          have HX0 := HB0
          go_wp2_with fail
          refine (HLa.out _ HX0.out).mono ?_
          rintro e w1 ⟨rfl, hb⟩
          have HX1 := Lib.hid (HX0.out.trans (hb.mono HX0.out.size))
          clear hb
          go_wp2_with fail
          refine (HLb.out _ HX1.out).mono ?_
          rintro e w2 ⟨rfl, hb⟩
          have HX2 := Lib.hid (HX1.out.trans (hb.mono HX1.out.size))
          clear hb
          go_wp2_with fail
          refine (HOK.out _).mono ?_
          rintro e wq ⟨rfl, rfl⟩
          go_wp2_with fail
          refine (HWu.out _ HX2.out).mono ?_
          rintro e w3 ⟨rfl, hb⟩
          have HX3 := Lib.hid (HX2.out.trans (hb.mono HX2.out.size))
          clear hb
          go_wp2_with fail
          refine (HWd.out _ HX3.out).mono ?_
          rintro e w4 ⟨rfl, hb⟩
          have HX4 := Lib.hid (HX3.out.trans (hb.mono HX3.out.size))
          clear hb
          go_wp2_with fail
          refine (HNO.out _).mono ?_
          rintro e wq ⟨rfl, rfl⟩
          exact ⟨rfl, HX4.out, .inr ⟨HV.out, rfl⟩⟩
      · have b2 : (b == 1594834165) = false := by simp [h2]
        have HV : Hid (bd = true) := Lib.hid (by rw [hbd]; simp [hl54, h2])
        clear h1 h2
        clear hbd hub hs0 hs1 hl54
        go_enter Try.func38, Try.ntmps38
        go_wp2_with fail
        refine (HZ.out).mono ?_
        rintro e w0 ⟨rfl, rfl⟩
        have HX0 := HB0
        go_wp2_with fail
        refine (HLa.out _ HX0.out).mono ?_
        rintro e w1 ⟨rfl, hb⟩
        have HX1 := Lib.hid (HX0.out.trans (hb.mono HX0.out.size))
        clear hb
        go_wp2_with fail
        refine (HLb.out _ HX1.out).mono ?_
        rintro e w2 ⟨rfl, hb⟩
        have HX2 := Lib.hid (HX1.out.trans (hb.mono HX1.out.size))
        clear hb
        go_wp2_with fail
        refine (HNO.out _).mono ?_
        rintro e wq ⟨rfl, rfl⟩
        exact ⟨rfl, HX2.out, .inr ⟨HV.out, rfl⟩⟩
    · have b1 : (a == 65536) = false := by simp [h1]
      have HV : Hid (bd = true) := Lib.hid (by rw [hbd]; simp [hl54, h1])
      clear h1
      clear hbd hub hs0 hs1 hl54
      go_enter Try.func38, Try.ntmps38
      go_wp2_with fail
      refine (HZ.out).mono ?_
      rintro e w0 ⟨rfl, rfl⟩
      have HX0 := HB0
      go_wp2_with fail
      refine (HLa.out _ HX0.out).mono ?_
      rintro e w1 ⟨rfl, hb⟩
      have HX1 := Lib.hid (HX0.out.trans (hb.mono HX0.out.size))
      clear hb
      go_wp2_with fail
      refine (HNO.out _).mono ?_
      rintro e wq ⟨rfl, rfl⟩
      exact ⟨rfl, HX1.out, .inr ⟨HV.out, rfl⟩⟩
  · have HZ := Lib.hid (size_bad w r l hr 54 h0)
    have HV : Hid (badHead l = true) := Lib.hid (by unfold badHead; simp; omega)
    generalize badHead l = bd at HV ⊢
    clear hr hA h0
    go_enter Try.func38, Try.ntmps38
    go_wp2_with fail
    refine (HZ.out).mono ?_
    rintro e w0 ⟨rfl, rfl⟩
    exact ⟨rfl, Below.refl _ _, .inr ⟨HV.out, rfl⟩⟩

set_option maxRecDepth 20000 in
theorem unitsOf_nil (w : World) : Calls Try.prog 38 #[.pointer none] w fun e w' => Below w.heap.size w w' ∧ e = gone 50 := by
  have HZ := Lib.hid (size_nil w 54)
  go_enter Try.func38, Try.ntmps38
  go_wp2_with fail
  refine (HZ.out).mono ?_
  rintro e w0 ⟨rfl, rfl⟩
  exact ⟨rfl, Below.refl _ _, rfl⟩
end Go.Proofs.Ytijmponhkabeiaa

namespace Go.Proofs.Ytijmponhkabeiaa
open Go Go.RowKit

/-- lists of bytes are told apart by their strings -/
theorem strOfNums_inj {a b : List Int} (ha : AllB a) (hb : AllB b) (h : strOfNums a = strOfNums b) : a = b := by
  have hd := congrArg (fun s : ByteArray => s.data.toList) h
  simp only [strOfNums_data] at hd
  have back : ∀ l : List Int, AllB l → (l.map fun n => UInt8.ofNat n.toNat).map (fun u => ((u.toNat : Nat) : Int)) = l := fun l hl => by
    rw [List.map_map]
    conv => rhs; rw [← List.map_id l]
    apply List.map_congr_left
    intro x hx
    have := hl x hx
    simp
    omega
  have h1 := congrArg (List.map (fun u : UInt8 => ((u.toNat : Nat) : Int))) hd
  rwa [back a ha, back b hb] at h1

/-- string(b[:n]) of bytes that are there -/
theorem run_str_take {w : World} {g off N c : Nat} {l : List Int} (hcell : ∀ (j : Nat) (h : j < l.length), w.cell? ⟨g, off + j, none⟩ = some (.int .u8 l[j])) (n : Nat) (hn : n ≤ l.length) (hN : N = n) :
    (convert 22 9 (.slice (some ⟨g, off, none⟩) N c)).run Try.prog w = .ok (.string (strOfNums (l.take n))) w := by
  subst hN
  refine run_convert_bytes_arg (P := Try.prog) w 22 5 Try.underlying22 Try.underlying5 g off N c (l.take N) (by rw [List.length_take]; omega) (fun i hi => ?_) 9 Try.underlying9
  rw [hcell i (by omega)]
  congr 2
  rw [List.getD_eq_getElem?_getD, List.getElem?_take_of_lt hi, List.getElem?_eq_getElem (by omega)]; rfl

/-- string(v) of bytes -/
theorem run_str_whole {w : World} {v : Value} {l : List Int} (h : NumZ .u8 w v l) : (convert 22 9 v).run Try.prog w = .ok (.string (strOfNums l)) w := by
  obtain ⟨A, c, rfl, hc, hm, hx⟩ := h
  by_cases hl : l = []
  · subst hl
    cases A with
    | none => rw [run_convert_bytes_nil (P := Try.prog) w 22 5 Try.underlying22 Try.underlying5 _ _ 9 Try.underlying9]; rfl
    | some a =>
      rw [run_convert_bytes_string (P := Try.prog) w 22 9 5 _ _ c Try.underlying22 Try.underlying5 Try.underlying9]
      rfl
  · obtain ⟨g, off, rfl, _, hcell⟩ := hx hl
    have := run_str_take (N := l.length) (c := c) hcell l.length (Nat.le_refl _) rfl
    rwa [List.take_length] at this

/-- two strings of bytes compared -/
theorem strOfNums_ne {a b : List Int} (ha : AllB a) (hb : AllB b) : (strOfNums a = strOfNums b) = (a = b) := propext ⟨strOfNums_inj ha hb, fun h => by rw [h]⟩
end Go.Proofs.Ytijmponhkabeiaa
