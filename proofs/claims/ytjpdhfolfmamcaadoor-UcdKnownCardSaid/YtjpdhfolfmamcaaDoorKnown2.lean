/-
  UcdKnown: the examples of the chapter; every character up to 3400, and every so many behind.
-/
import Derived.Test.YtjpdhfolfmamcaaDoorTables
import Derived.Test.YtjpdhfolfmamcaaDoorMir
namespace Go.Proofs.YtjpdhfolfmamcaaDoor
open Go Go.RowKit

def okStr : Value → Bool
  | .string s => decide (s.size ≤ 8)
  | _ => false

theorem strs_new (w : World) (cs : Array Value) (t : TypeId) (h : cs.toList.all okStr = true) (j : Nat) (hj : j < cs.size) : ∃ s, (w.alloc (.cells cs t)).cell? ⟨w.heap.size, j, none⟩ = some (.string s) ∧ s.size ≤ 8 := by
  have hm := List.all_eq_true.1 h cs[j] (Array.getElem_mem_toList hj)
  rw [cell_of_row _ w.heap.size j _ _ _ (heap_alloc_new w _), Array.getElem?_eq_getElem hj]
  cases hv : cs[j] with
  | string s => rw [hv] at hm; exact ⟨s, rfl, of_decide_eq_true hm⟩
  | _ => rw [hv] at hm; cases hm

/-- at the head of each round over the characters -/
def RunRel (w : World) (k : Nat) (v : Value) (wr : World) : Prop :=
  ∃ u : Int, v = .int .i32 u ∧ -9 ≤ u ∧ u + (k : Int) = 1180000 ∧ u ≤ 1179800 ∧ Below w.heap.size w wr

/-- at the head of each round over the texts -/
def TxtRel (w : World) (W1 : World) (k : Nat) (v : Value) (wr : World) : Prop :=
  ∃ i : Nat, v = .int .i64 (i : Int) ∧ i + k = 23 ∧ Below w.heap.size w wr ∧ Below W1.heap.size W1 wr

set_option maxHeartbeats 8000000 in
set_option maxRecDepth 20000 in
theorem known2_walk (w : World) (hT : U8T w) (hm : MirW w) : Calls Tryd.prog 8 #[] w fun e w' => e = .returned (.bool true) ∧ Below w.heap.size w w' := by
  have k0 := joining_any 1575
  rw [show semL E1 joiningL joiningD 1575 = 1 by kernel_rfl] at k0
  have K0 := Lib.hid k0
  clear k0
  have k1 := joining_any 1600
  rw [show semL E1 joiningL joiningD 1600 = 3 by kernel_rfl] at k1
  have K1 := Lib.hid k1
  clear k1
  have k2 := script_any 1600
  rw [show semL E1 scriptL scriptD 1600 = 0 by kernel_rfl] at k2
  have K2 := Lib.hid k2
  clear k2
  have k3 := script_any 1576
  rw [show semL E1 scriptL scriptD 1576 = 4 by kernel_rfl] at k3
  have K3 := Lib.hid k3
  clear k3
  have k4 := class_any 1614
  rw [show classC 1614 = 9 by kernel_rfl] at k4
  have K4 := Lib.hid k4
  clear k4
  have k5 := break_any 1614
  rw [show breakC 1614 = 9 by kernel_rfl] at k5
  have K5 := Lib.hid k5
  clear k5
  have k6 := script_any 1614
  rw [show semL E1 scriptL scriptD 1614 = 1 by kernel_rfl] at k6
  have K6 := Lib.hid k6
  clear k6
  have k7 := break_any 65
  rw [show breakC 65 = 0 by kernel_rfl] at k7
  have K7 := Lib.hid k7
  clear k7
  have k8 := break_any 1488
  rw [show breakC 1488 = 28 by kernel_rfl] at k8
  have K8 := Lib.hid k8
  clear k8
  have k9 := script_any 1488
  rw [show semL E1 scriptL scriptD 1488 = 3 by kernel_rfl] at k9
  have K9 := Lib.hid k9
  clear k9
  have k10 := break_any 40
  rw [show breakC 40 = 19 by kernel_rfl] at k10
  have K10 := Lib.hid k10
  clear k10
  have k11 := break_any 44032
  rw [show breakC 44032 = 36 by kernel_rfl] at k11
  have K11 := Lib.hid k11
  clear k11
  have k12 := break_any 44033
  rw [show breakC 44033 = 37 by kernel_rfl] at k12
  have K12 := Lib.hid k12
  clear k12
  have k13 := cluster_any 44033
  rw [show semL E1 clusterL clusterD 44033 = 12 by kernel_rfl] at k13
  have K13 := Lib.hid k13
  clear k13
  have k14 := break_any 127462
  rw [show breakC 127462 = 32 by kernel_rfl] at k14
  have K14 := Lib.hid k14
  clear k14
  have k15 := cluster_any 127462
  rw [show semL E1 clusterL clusterD 127462 = 6 by kernel_rfl] at k15
  have K15 := Lib.hid k15
  clear k15
  have k16 := joining_any 8204
  rw [show semL E1 joiningL joiningD 8204 = 0 by kernel_rfl] at k16
  have K16 := Lib.hid k16
  clear k16
  have k17 := joining_any 8205
  rw [show semL E1 joiningL joiningD 8205 = 3 by kernel_rfl] at k17
  have K17 := Lib.hid k17
  clear k17
  have m0 := fun w hm => bracket_is _ mir_ok 9001 w hm
  simp only [show bracketS (pairTable Tryd.f43) 9001 = (12297, true, true) by kernel_rfl] at m0
  have M0 := Lib.hid m0
  clear m0
  have m1 := fun w hm => bracket_is _ mir_ok 9002 w hm
  simp only [show bracketS (pairTable Tryd.f43) 9002 = (12297, false, true) by kernel_rfl] at m1
  have M1 := Lib.hid m1
  clear m1
  have HU := Lib.hid hT
  have HM := Lib.hid hm
  clear hT hm
  go_enter Tryd.func8, Tryd.ntmps8
  go_wp2_with fail
  go_loopg [1] 1180009 (fun k v wr => RunRel w k v wr)
  case atStart => exact ⟨-9, rfl, by omega, by omega, by omega, Below.refl _ _⟩
  case round =>
    obtain ⟨u, rfl, hu9, huk, hu8, hbw⟩ := hrel
    have HB := Lib.hid hbw
    clear hbw
    by_cases h1 : u < 1179648
    · have b1 : (u < 1179648) = True := by simp [h1]
      by_cases h2 : 13312 < u
      · have b2 : (13312 < u) = True := by simp [h2]
        have q1 : IntKind.i32.wrap (u + 96) = u + 96 := by rw [IntKind.wrap_i32]; omega
        have q2 : IntKind.i32.wrap (u + 96 + 1) = u + 96 + 1 := by rw [IntKind.wrap_i32]; omega
        have S1 := Lib.hid (same_any (u + 96) (by unfold I32; omega))
        have hk97 : 97 ≤ gk := by omega
        clear h2
        go_wp2_with fail
        refine (S1.out _).mono ?_
        rintro e w4 ⟨rfl, hb4⟩
        have HB4 := Lib.hid (HB.out.trans (hb4.mono HB.out.size))
        clear hb4
        go_wp2_with fail
        go_roundg (gk - 97)
        case measure => omega
        case rel => exact ⟨u + 96 + 1, rfl, by omega, by omega, by omega, HB4.out⟩
      · have b2 : (13312 < u) = False := by simp; omega
        have q2 : IntKind.i32.wrap (u + 1) = u + 1 := by rw [IntKind.wrap_i32]; omega
        have S1 := Lib.hid (same_any u (by unfold I32; omega))
        have hk97 : 1 ≤ gk := by omega
        clear h2
        go_wp2_with fail
        refine (S1.out _).mono ?_
        rintro e w4 ⟨rfl, hb4⟩
        have HB4 := Lib.hid (HB.out.trans (hb4.mono HB.out.size))
        clear hb4
        go_wp2_with fail
        go_roundg (gk - 1)
        case measure => omega
        case rel => exact ⟨u + 1, rfl, by omega, by omega, by omega, HB4.out⟩
    · have b1 : (u < 1179648) = False := by simp; omega
      clear h1
      go_wp2_with fail
      refine (K0.out _).mono ?_
      rintro e w' ⟨rfl, rfl⟩
      go_wp2_with fail
      refine (K1.out _).mono ?_
      rintro e w' ⟨rfl, rfl⟩
      go_wp2_with fail
      refine (K2.out _).mono ?_
      rintro e w' ⟨rfl, rfl⟩
      go_wp2_with fail
      refine (K3.out _).mono ?_
      rintro e w' ⟨rfl, rfl⟩
      go_wp2_with fail
      refine (K4.out _).mono ?_
      rintro e w' ⟨rfl, rfl⟩
      go_wp2_with fail
      refine (K5.out _).mono ?_
      rintro e w' ⟨rfl, rfl⟩
      go_wp2_with fail
      refine (K6.out _).mono ?_
      rintro e w' ⟨rfl, rfl⟩
      go_wp2_with fail
      refine (K7.out _).mono ?_
      rintro e w' ⟨rfl, rfl⟩
      go_wp2_with fail
      refine (K8.out _).mono ?_
      rintro e w' ⟨rfl, rfl⟩
      go_wp2_with fail
      refine (K9.out _).mono ?_
      rintro e w' ⟨rfl, rfl⟩
      go_wp2_with fail
      refine (K10.out _).mono ?_
      rintro e w' ⟨rfl, rfl⟩
      go_wp2_with fail
      refine (K11.out _).mono ?_
      rintro e w' ⟨rfl, rfl⟩
      go_wp2_with fail
      refine (K12.out _).mono ?_
      rintro e w' ⟨rfl, rfl⟩
      go_wp2_with fail
      refine (K13.out _).mono ?_
      rintro e w' ⟨rfl, rfl⟩
      go_wp2_with fail
      refine (K14.out _).mono ?_
      rintro e w' ⟨rfl, rfl⟩
      go_wp2_with fail
      refine (K15.out _).mono ?_
      rintro e w' ⟨rfl, rfl⟩
      go_wp2_with fail
      refine (K16.out _).mono ?_
      rintro e w' ⟨rfl, rfl⟩
      go_wp2_with fail
      refine (K17.out _).mono ?_
      rintro e w' ⟨rfl, rfl⟩
      go_wp2_with fail
      refine (M0.out _ (HM.out.below HB.out)).mono ?_
      rintro e w' ⟨rfl, rfl⟩
      go_wp2_with fail
      refine (M1.out _ (HM.out.below HB.out)).mono ?_
      rintro e w' ⟨rfl, rfl⟩
      have hst := strs_new wr #[.string ⟨#[]⟩, .string ⟨#[97, 128]⟩, .string ⟨#[192, 128]⟩, .string ⟨#[193, 191]⟩, .string ⟨#[194, 128]⟩, .string ⟨#[223, 191]⟩, .string ⟨#[224, 159, 191]⟩, .string ⟨#[224, 160, 128]⟩, .string ⟨#[237, 159, 191]⟩, .string ⟨#[237, 160, 128]⟩, .string ⟨#[239, 191, 191]⟩, .string ⟨#[240, 143, 191, 191]⟩, .string ⟨#[240, 144, 128, 128]⟩, .string ⟨#[244, 143, 191, 191]⟩, .string ⟨#[244, 144, 128, 128]⟩, .string ⟨#[245, 128, 128, 128]⟩, .string ⟨#[255]⟩, .string ⟨#[195]⟩, .string ⟨#[97, 226, 130]⟩, .string ⟨#[97, 98, 240, 159, 152]⟩, .string ⟨#[226, 40, 161]⟩, .string ⟨#[97, 240, 40, 140, 188]⟩, .string ⟨#[0, 127]⟩] 9 (by kernel_rfl)
      obtain ⟨W1, hW1⟩ : ∃ W1, W1 = wr.alloc (.cells #[.string ⟨#[]⟩, .string ⟨#[97, 128]⟩, .string ⟨#[192, 128]⟩, .string ⟨#[193, 191]⟩, .string ⟨#[194, 128]⟩, .string ⟨#[223, 191]⟩, .string ⟨#[224, 159, 191]⟩, .string ⟨#[224, 160, 128]⟩, .string ⟨#[237, 159, 191]⟩, .string ⟨#[237, 160, 128]⟩, .string ⟨#[239, 191, 191]⟩, .string ⟨#[240, 143, 191, 191]⟩, .string ⟨#[240, 144, 128, 128]⟩, .string ⟨#[244, 143, 191, 191]⟩, .string ⟨#[244, 144, 128, 128]⟩, .string ⟨#[245, 128, 128, 128]⟩, .string ⟨#[255]⟩, .string ⟨#[195]⟩, .string ⟨#[97, 226, 130]⟩, .string ⟨#[97, 98, 240, 159, 152]⟩, .string ⟨#[226, 40, 161]⟩, .string ⟨#[97, 240, 40, 140, 188]⟩, .string ⟨#[0, 127]⟩] 9) := ⟨_, rfl⟩
      have HBW : Hid (Below w.heap.size w W1) := Lib.hid (by rw [hW1]; exact HB.out.alloc HB.out.size _)
      have hgt : wr.heap.size < W1.heap.size := by rw [hW1]; exact heap_more _ _
      rw [← hW1] at hst
      have HST := Lib.hid hst
      have HGT := Lib.hid hgt
      have heq := hW1.symm
      clear hW1 hst hgt
      go_wp2_with fail
      obtain ⟨G, hG⟩ : ∃ G, G = wr.heap.size := ⟨_, rfl⟩
      rw [← hG]
      rw [← hG] at HST HGT
      clear heq hG
      go_loopg [11] 23 (fun k v w2 => TxtRel w W1 k v w2)
      case atStart => exact ⟨0, rfl, by omega, HBW.out, Below.refl _ _⟩
      case round =>
        obtain ⟨i, rfl, hik, hbw, hbw1⟩ := hrel
        have HB2 := Lib.hid hbw
        have HB1 := Lib.hid hbw1
        clear hbw hbw1
        rcases Nat.eq_zero_or_pos gk with h0 | h0
        · obtain rfl : i = 23 := by omega
          go_wp2_with fail
          refine (works_any _ (u8_below HU.out HB2.out)).mono ?_
          rintro e w5 ⟨rfl, hb5⟩
          have HB5 := Lib.hid (HB2.out.trans (hb5.mono HB2.out.size))
          clear hb5
          go_wp2_with fail
          go_ret
          exact ⟨rfl, HB5.out⟩
        · have hi : i < 23 := by omega
          obtain ⟨s, hc, hs⟩ := HST.out i hi
          have hiI : (i : Int) < 23 := by omega
          have hi0 : (0 : Int) ≤ (i : Int) := Int.natCast_nonneg _
          have c1 : wr.cell? ⟨G, i, none⟩ = some (.string s) := by rw [HB1.out.cell (by exact HGT.out)]; exact hc
          clear hc
          have hg1 : G < wr.heap.size := Nat.lt_of_lt_of_le HGT.out HB1.out.size
          have hs2 : s.size ≤ maxLen := by unfold maxLen; omega
          obtain ⟨v1, w1, hrun1, ⟨cc1, rfl⟩, hbr1, hb1⟩ := conv_string wr s hs2
          have BR1 := Lib.hid hbr1
          have X1 := Lib.hid (HB2.out.trans (hb1.mono HB2.out.size))
          have c2 : w1.cell? ⟨G, i, none⟩ = some (.string s) := by rw [hb1.cell (by exact hg1)]; exact c1
          have hg2 : G < w1.heap.size := Nat.lt_of_lt_of_le hg1 hb1.size
          have Y1 := Lib.hid (HB1.out.trans (hb1.mono HB1.out.size))
          clear hbr1 hb1
          go_wp2_with fail
          refine (decodes_walk s _ w1 BR1.out (u8_below HU.out X1.out) (fun w' hb => works_any w' (u8_below HU.out (X1.out.trans (hb.mono X1.out.size))))).mono ?_
          rintro e w2 ⟨rfl, hb2⟩
          have X2 := Lib.hid (X1.out.trans (hb2.mono X1.out.size))
          have Y2 := Lib.hid (Y1.out.trans (hb2.mono Y1.out.size))
          have c3 : w2.cell? ⟨G, i, none⟩ = some (.string s) := by rw [hb2.cell (by exact hg2)]; exact c2
          have hg3 : G < w2.heap.size := Nat.lt_of_lt_of_le hg2 hb2.size
          obtain ⟨v3, w3, hrun3, ⟨cc3, rfl⟩, hbr3, hb3⟩ := conv_string w2 s hs2
          have BR3 := Lib.hid hbr3
          have X3 := Lib.hid (X2.out.trans (hb3.mono X2.out.size))
          have Y3 := Lib.hid (Y2.out.trans (hb3.mono Y2.out.size))
          have c4 : w3.cell? ⟨G, i, none⟩ = some (.string s) := by rw [hb3.cell (by exact hg3)]; exact c3
          have hg4 : G < w3.heap.size := Nat.lt_of_lt_of_le hg3 hb3.size
          clear hb2 hbr3 hb3 c1 c2 hrun1
          go_wp2_with fail
          refine (back_walk [] (.slice none 0 0) s _ w3 ⟨none, 0, rfl, Nat.le_refl _, fun h => absurd rfl h⟩ BR3.out (u8_below HU.out X3.out) (fun w' hb => works_any w' (u8_below HU.out (X3.out.trans (hb.mono X3.out.size))))).mono ?_
          rintro e w4 ⟨rfl, hb4⟩
          have X4 := Lib.hid (X3.out.trans (hb4.mono X3.out.size))
          have Y4 := Lib.hid (Y3.out.trans (hb4.mono Y3.out.size))
          have c5 : w4.cell? ⟨G, i, none⟩ = some (.string s) := by rw [hb4.cell (by exact hg4)]; exact c4
          clear hb4 c3 c4 hrun3
          obtain ⟨s2, hs2e⟩ : ∃ s2 : ByteArray, s2 = ⟨#[120]⟩ ++ s ++ ⟨#[121]⟩ := ⟨_, rfl⟩
          have hs3 : s2.size ≤ maxLen := by
            rw [hs2e, ByteArray.size_append, ByteArray.size_append]
            have e1 : (ByteArray.mk #[120]).size = 1 := rfl
            have e2 : (ByteArray.mk #[121]).size = 1 := rfl
            rw [e1, e2]
            unfold maxLen; omega
          obtain ⟨v5, w5, hrun5, ⟨cc5, rfl⟩, hbr5, hb5⟩ := conv_string w4 s2 hs3
          have hrun6 : (convert 9 33 (.string (⟨#[120]⟩ ++ s ++ ⟨#[121]⟩))).run Tryd.prog w4 = .ok (.slice (some ⟨w4.heap.size, 0, none⟩) s2.size cc5) w5 := by rw [← hs2e]; exact hrun5
          have BR5 := Lib.hid hbr5
          have X5 := Lib.hid (X4.out.trans (hb5.mono X4.out.size))
          have Y5 := Lib.hid (Y4.out.trans (hb5.mono Y4.out.size))
          clear hbr5 hb5 hs3 hs2e hrun5
          go_wp2_with fail
          refine (decodes_walk s2 _ w5 BR5.out (u8_below HU.out X5.out) (fun w' hb => works_any w' (u8_below HU.out (X5.out.trans (hb.mono X5.out.size))))).mono ?_
          rintro e w6 ⟨rfl, hb6⟩
          have X6 := Lib.hid (X5.out.trans (hb6.mono X5.out.size))
          have Y6 := Lib.hid (Y5.out.trans (hb6.mono Y5.out.size))
          clear hb6 hrun6
          go_wp2_with fail
          go_roundg (gk - 1)
          case measure => omega
          case rel => exact ⟨i + 1, by first | rfl | exact congrArg _ (by omega), by omega, X6.out, Y6.out⟩
end Go.Proofs.YtjpdhfolfmamcaaDoor
