/-
  Parted at any place: the code's and the document's; ClusterParted.
-/
import Derived.Test.YtjlencmoobanoaaRefParted
import Derived.Test.YtjlencmoobanoaaWorks3
namespace Go.Proofs.Ytjlencmoobanoaa
open Go Go.RowKit

/-- the answer at any place -/
def ansP (C : List Nat) (i : Int) : Bool := if 1 ≤ i ∧ i < (C.length : Int) then docPre (C.take i.toNat).reverse (C.getD i.toNat 0) else false

theorem parted_all (T : List (Int × Int × Int)) (hT : TabC T) (l : List Int) (v : Value) (w : World) (hv : RunesZ w v l) (hlen : l.length ≤ 1000000) (i : Int) :
    Calls Try.prog 12 #[v, .int .i64 i] w fun e w' => e = .returned (.bool (ansP (clsL T l) i)) ∧ Below w.heap.size w w' := by
  obtain ⟨A, cap, rfl, hcap, hcap2, hx⟩ := hv
  have hcl : (clsL T l).length = l.length := by simp [clsL]
  by_cases h1 : i < 1
  · rw [show ansP (clsL T l) i = false by rw [ansP, if_neg (by omega)]]; exact parted_low A _ cap w i h1
  by_cases h2 : (l.length : Int) ≤ i
  · rw [show ansP (clsL T l) i = false by rw [ansP, if_neg (by omega)]]; exact parted_high A _ cap w i (by omega) h2
  obtain ⟨n, rfl⟩ := Int.eq_ofNat_of_zero_le (show 0 ≤ i by omega)
  obtain ⟨g, off, rfl, hg, hc⟩ := hx (by rintro rfl; simp at h2)
  have := parted_in T hT l g off cap _ rfl hcap hcap2 w hc hg n (by omega) (by omega) hlen
  rw [ansP, if_pos ⟨by omega, by omega⟩]
  exact this

set_option maxRecDepth 20000 in
theorem refParted_low (A : Option Addr) (N cap : Nat) (w : World) (i : Int) (hi : i < 1) :
    Calls Try.prog 13 #[.slice A N cap, .int .i64 i] w fun e w' => e = .returned (.bool false) ∧ Below w.heap.size w w' := by
  have b1 : (i < 1) = True := eq_true hi
  go_enter Try.func13, Try.ntmps13
  go_wp2_with fail
  go_ret
  exact ⟨rfl, Below.refl _ _⟩

set_option maxRecDepth 20000 in
theorem refParted_high (A : Option Addr) (N cap : Nat) (w : World) (i : Int) (h1 : 1 ≤ i) (hi : (N : Int) ≤ i) :
    Calls Try.prog 13 #[.slice A N cap, .int .i64 i] w fun e w' => e = .returned (.bool false) ∧ Below w.heap.size w w' := by
  have b1 : (i < 1) = False := eq_false (by omega)
  have b2 : ((N : Int) ≤ i) = True := eq_true hi
  go_enter Try.func13, Try.ntmps13
  go_wp2_with fail
  go_ret
  exact ⟨rfl, Below.refl _ _⟩

theorem refParted_all (T : List (Int × Int × Int)) (hT : TabC T) (l : List Int) (hl : AllR l) (v : Value) (w : World) (hv : RunesZ w v l) (hlen : l.length ≤ 1000000) (i : Int) :
    Calls Try.prog 13 #[v, .int .i64 i] w fun e w' => e = .returned (.bool (ansP (clsL T l) i)) ∧ Below w.heap.size w w' := by
  obtain ⟨A, cap, rfl, hcap, hcap2, hx⟩ := hv
  have hcl : (clsL T l).length = l.length := by simp [clsL]
  by_cases h1 : i < 1
  · rw [show ansP (clsL T l) i = false by rw [ansP, if_neg (by omega)]]; exact refParted_low A _ cap w i h1
  by_cases h2 : (l.length : Int) ≤ i
  · rw [show ansP (clsL T l) i = false by rw [ansP, if_neg (by omega)]]; exact refParted_high A _ cap w i (by omega) h2
  obtain ⟨n, rfl⟩ := Int.eq_ofNat_of_zero_le (show 0 ≤ i by omega)
  obtain ⟨g, off, rfl, hg, hc⟩ := hx (by rintro rfl; simp at h2)
  have := refParted_in T hT l hl _ g off cap _ rfl rfl w hc n (by omega) (by omega) hlen
  rw [ansP, if_pos ⟨by omega, by omega⟩]
  exact this

def CPRel (w : World) (N k : Nat) (vi : Value) (wr : World) : Prop := ∃ i : Int, i + k = N + 2 ∧ -1 ≤ i ∧ vi = .int .i64 i ∧ Below w.heap.size w wr

set_option maxRecDepth 20000 in
theorem clusterParted_any (l : List Int) (hl : AllR l) (v : Value) (w : World) (hv : RunesZ w v l) (a : Int) :
    Calls Try.prog 4 #[v, .int .i64 a] w fun e w' => e = .returned (.bool true) ∧ Below w.heap.size w w' := by
  obtain ⟨T, hT⟩ := tabC
  have HW := Lib.hid (fun w => works3_any w)
  by_cases hlen : l.length ≤ 600
  · have HP : Hid (∀ w1 i, Below w.heap.size w w1 → Calls Try.prog 12 #[v, .int .i64 i] w1 fun e w' => e = .returned (.bool (ansP (clsL T l) i)) ∧ Below w1.heap.size w1 w') := Lib.hid (fun w1 i hb => parted_all T hT l v w1 (hv.below hb) (by omega) i)
    have HR : Hid (∀ w1 i, Below w.heap.size w w1 → Calls Try.prog 13 #[v, .int .i64 i] w1 fun e w' => e = .returned (.bool (ansP (clsL T l) i)) ∧ Below w1.heap.size w1 w') := Lib.hid (fun w1 i hb => refParted_all T hT l hl v w1 (hv.below hb) (by omega) i)
    obtain ⟨P, hP⟩ : ∃ P, P = ansP (clsL T l) := ⟨_, rfl⟩
    rw [← hP] at HP HR
    obtain ⟨A, cap, rfl, _, _, _⟩ := hv
    obtain ⟨N, hN⟩ : ∃ N, N = l.length := ⟨_, rfl⟩
    rw [← hN] at hlen HP HR ⊢
    have b0 : (600 < (N : Int)) = False := eq_false (by omega)
    have q0 : IntKind.i64.wrap ((N : Int) + 1) = (N : Int) + 1 := by rw [IntKind.wrap_i64]; omega
    clear hP hN
    rename_i g1 g2 g3
    clear g1 g2 g3 hl hT
    go_enter Try.func4, Try.ntmps4
    go_wp2_with fail
    go_loopg [5] (N + 3) (fun k vi wr => CPRel w N k vi wr)
    case atStart => exact ⟨-1, by omega, by omega, rfl, Below.refl _ _⟩
    case round =>
      obtain ⟨i, hik, hi1, rfl, hb⟩ := hrel
      have HB := Lib.hid hb
      clear hb
      by_cases hend : i = N + 2
      · have b1 : (i ≤ (N : Int) + 1) = False := eq_false (by omega)
        have HE := Lib.hid hend
        have HK := Lib.hid hik
        clear hend hik hi1
        go_wp2_with fail
        refine (HP.out _ _ HB.out).mono ?_
        rintro e w2 ⟨rfl, hb2⟩
        have HB2 := Lib.hid (HB.out.trans (hb2.mono HB.out.size))
        clear hb2
        go_wp2_with fail
        refine (HR.out _ _ HB2.out).mono ?_
        rintro e w3 ⟨rfl, hb3⟩
        have HB3 := Lib.hid (HB2.out.trans (hb3.mono HB2.out.size))
        clear hb3
        go_wp2_with fail
        refine (HW.out _).mono ?_
        rintro e w4 ⟨rfl, hb4⟩
        have HB4 := Lib.hid (HB3.out.trans (hb4.mono HB3.out.size))
        clear hb4
        go_wp2_with fail
        go_ret
        exact ⟨rfl, HB4.out⟩
      · have b1 : (i ≤ (N : Int) + 1) = True := eq_true (by omega)
        have q1 : IntKind.i64.wrap (i + 1) = i + 1 := by rw [IntKind.wrap_i64]; omega
        obtain ⟨k, rfl⟩ : ∃ k, gk = k + 1 := ⟨gk - 1, by omega⟩
        have HK : Hid (i + 1 + (k : Int) = N + 2) := Lib.hid (by omega)
        have HI : Hid (-1 ≤ i + 1) := Lib.hid (by omega)
        clear hend hik hi1
        go_wp2_with fail
        refine (HP.out _ _ HB.out).mono ?_
        rintro e w2 ⟨rfl, hb2⟩
        have HB2 := Lib.hid (HB.out.trans (hb2.mono HB.out.size))
        clear hb2
        go_wp2_with fail
        refine (HR.out _ _ HB2.out).mono ?_
        rintro e w3 ⟨rfl, hb3⟩
        have HB3 := Lib.hid (HB2.out.trans (hb3.mono HB2.out.size))
        clear hb3
        go_wp2_with fail
        go_roundg k
        case measure => omega
        case rel => exact ⟨i + 1, HK.out, HI.out, rfl, HB3.out⟩
  · obtain ⟨A, cap, rfl, _, _, _⟩ := hv
    have b0 : (600 < (l.length : Int)) = True := eq_true (by omega)
    go_enter Try.func4, Try.ntmps4
    go_wp2_with fail
    refine (HW.out _).mono ?_
    rintro e w1 ⟨rfl, hb1⟩
    go_wp2_with fail
    go_ret
    exact ⟨rfl, hb1⟩
end Go.Proofs.Ytjlencmoobanoaa
