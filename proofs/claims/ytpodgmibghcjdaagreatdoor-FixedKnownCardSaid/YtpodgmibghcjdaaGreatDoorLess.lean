/-
  The document's long numbers: less, zero.
-/
import Derived.Test.YtpodgmibghcjdaaGreatDoorMinus
namespace Go.Proofs.YtpodgmibghcjdaaGreatDoor
open Go Go.RowKit

theorem longN_drop (l : List Nat) (j : Nat) : longN (l.drop j) = l.getD j 0 + 65536 * longN (l.drop (j + 1)) := by
  by_cases h : j < l.length
  · rw [List.drop_eq_getElem_cons h]; simp [longN, h]
  · rw [List.drop_of_length_le (by omega), List.drop_of_length_le (by omega), List.getD_eq_getElem?_getD, List.getElem?_eq_none (by omega)]
    simp [longN]

theorem longN_take_lt (l : List Nat) (h : ∀ d ∈ l, d < 65536) (j : Nat) : longN (l.take j) < 65536 ^ j := by
  have h1 := longN_lt (l.take j) (fun d hd => h d (List.mem_of_mem_take hd))
  exact Nat.lt_of_lt_of_le h1 (Nat.pow_le_pow_right (by omega) (by rw [List.length_take]; omega))

theorem less_lt {a b : List Nat} {j : Nat} (h : longN (a.drop (j + 1)) = longN (b.drop (j + 1))) (ha : ∀ d ∈ a, d < 65536) (hx : a.getD j 0 < b.getD j 0) : longN a < longN b := by
  have e1 := longN_cut a (j + 1)
  have e2 := longN_cut b (j + 1)
  have e3 := longN_take a j
  have e4 := longN_take b j
  have e5 := longN_take_lt a ha j
  rw [h] at e1
  generalize longN (b.drop (j + 1)) = T at *
  generalize 65536 ^ (j + 1) * T = Q at *
  generalize 65536 ^ j = P at *
  generalize a.getD j 0 = x at *
  generalize b.getD j 0 = y at *
  have : P * (x + 1) ≤ P * y := Nat.mul_le_mul_left _ hx
  rw [Nat.mul_add] at this
  omega

theorem less_yes {a b : List Nat} {j : Nat} (h : longN (a.drop (j + 1)) = longN (b.drop (j + 1))) (ha : ∀ d ∈ a, d < 65536) (_hb : ∀ d ∈ b, d < 65536) (hx : a.getD j 0 < b.getD j 0) : decide (longN a < longN b) = true :=
  decide_eq_true (less_lt h ha hx)
theorem less_no {a b : List Nat} {j : Nat} (h : longN (a.drop (j + 1)) = longN (b.drop (j + 1))) (_ha : ∀ d ∈ a, d < 65536) (hb : ∀ d ∈ b, d < 65536) (hx : b.getD j 0 < a.getD j 0) : decide (longN a < longN b) = false :=
  decide_eq_false (by have := less_lt h.symm hb hx; omega)

def LessRel (w : World) (a b : List Nat) (K k : Nat) (vi : Value) (wr : World) : Prop :=
  w = wr ∧ k ≤ K ∧ vi = .int .i64 ((k : Int) - 1) ∧ longN (a.drop k) = longN (b.drop k)

set_option maxHeartbeats 2000000 in
set_option maxRecDepth 20000 in
theorem refLess_any (va vb : Value) (a b : List Nat) (w : World) (ha : LongR w va a) (hbv : LongR w vb b) :
    Calls Tryz.prog 51 #[va, vb] w fun e w' => e = .returned (.bool (decide (longN a < longN b))) ∧ w = w' := by
  obtain ⟨A, cap, rfl, hcap, hcap2, hx⟩ := ha.at_
  obtain ⟨B, capb, rfl, hcapb, hcapb2, hxb⟩ := hbv.at_
  have HX := Lib.hid hx
  have HXB := Lib.hid hxb
  have HA := Lib.hid ha
  have HB := Lib.hid hbv
  have h5 := ha.len
  have h5b := hbv.len
  obtain ⟨N, hN⟩ : ∃ N, N = a.length := ⟨_, rfl⟩
  obtain ⟨M, hM⟩ : ∃ M, M = b.length := ⟨_, rfl⟩
  rw [← hN] at hcap h5
  rw [← hM] at hcapb h5b
  have HN := Lib.hid hN
  have HM := Lib.hid hM
  rw [← hN, ← hM]
  clear hx ha hN hxb hbv hM
  go_enter Tryz.func51, Tryz.ntmps51
  go_wp2_with fail
  go_loopg [5] (max N M) (fun k vi wr => LessRel w a b (max N M) k vi wr)
  case atStart =>
    refine ⟨rfl, Nat.le_refl _, congrArg _ (by omega), ?_⟩
    rw [List.drop_of_length_le (by have := HN.out; omega), List.drop_of_length_le (by have := HM.out; omega)]
  case round =>
    obtain ⟨rfl, hk, rfl, hdr⟩ := hrel
    rcases Nat.eq_zero_or_pos gk with h0 | h0
    · obtain rfl := h0
      have hfin : longN a = longN b := by simpa using hdr
      have HF := Lib.hid hfin
      clear hfin hdr
      go_wp2_with fail
      go_ret
      exact ⟨by rw [HF.out, decide_eq_false (by omega)]; rfl, rfl⟩
    · obtain ⟨j, rfl⟩ : ∃ j, gk = j + 1 := ⟨gk - 1, by omega⟩
      have HD := Lib.hid hdr
      have ej : ((j + 1 : Nat) : Int) - 1 = (j : Int) := by omega
      rw [ej]
      clear hdr ej
      obtain ⟨x, hx⟩ : ∃ x, x = a.getD j 0 := ⟨_, rfl⟩
      obtain ⟨y, hy⟩ : ∃ y, y = b.getD j 0 := ⟨_, rfl⟩
      have HXE := Lib.hid hx.symm
      have HYE := Lib.hid hy.symm
      by_cases hA : j < N
      · have hLa : j < a.length := by have := HN.out; omega
        obtain ⟨ga, rfl, hga, hcell⟩ := HX.out (by intro e; rw [e] at hLa; simp at hLa)
        have hcx : w.cell? ⟨ga, j, none⟩ = some (.int .u32 (x : Int)) := by rw [hx, hcell j hLa]; simp [hLa]
        clear hcell
        by_cases hB : j < M
        · have hLb : j < b.length := by have := HM.out; omega
          obtain ⟨gb, rfl, hgb, hcell⟩ := HXB.out (by intro e; rw [e] at hLb; simp at hLb)
          have hcy : w.cell? ⟨gb, j, none⟩ = some (.int .u32 (y : Int)) := by rw [hy, hcell j hLb]; simp [hLb]
          clear hcell hx hy hLa hLb
          rcases (show x = y ∨ x < y ∨ y < x by omega) with hc | hc | hc
          · obtain rfl := hc
            go_wp2_with fail
            go_roundg j
            case measure => omega
            case rel => exact ⟨rfl, by omega, by first | rfl | (exact congrArg _ (by omega)), by rw [longN_drop a j, longN_drop b j, HXE.out, HYE.out, HD.out]⟩
          · have hcI : (x : Int) < (y : Int) := by omega
            go_wp2_with fail
            go_ret
            exact ⟨by rw [less_yes HD.out HA.out.dig HB.out.dig (by rw [HXE.out, HYE.out]; omega)]; first | rfl | (refine congrArg Ending.returned (congrArg Value.bool ?_); simp; omega), rfl⟩
          · have hcI : (y : Int) < (x : Int) := by omega
            go_wp2_with fail
            go_ret
            exact ⟨by rw [less_no HD.out HA.out.dig HB.out.dig (by rw [HXE.out, HYE.out]; omega)]; first | rfl | (refine congrArg Ending.returned (congrArg Value.bool ?_); simp; omega), rfl⟩
        · have hy0 : y = 0 := by rw [hy, List.getD_eq_getElem?_getD, List.getElem?_eq_none (by have := HM.out; omega)]; rfl
          clear hy hx hLa
          obtain rfl := hy0
          rcases (show x = 0 ∨ x < 0 ∨ 0 < x by omega) with hc | hc | hc
          · obtain rfl := hc
            go_wp2_with fail
            go_roundg j
            case measure => omega
            case rel => exact ⟨rfl, by omega, by first | rfl | (exact congrArg _ (by omega)), by rw [longN_drop a j, longN_drop b j, HXE.out, HYE.out, HD.out]⟩
          · omega
          · have hcI : (0 : Int) < (x : Int) := by omega
            go_wp2_with fail
            go_ret
            exact ⟨by rw [less_no HD.out HA.out.dig HB.out.dig (by rw [HXE.out, HYE.out]; omega)]; first | rfl | (refine congrArg Ending.returned (congrArg Value.bool ?_); simp; omega), rfl⟩
      · have hx0 : x = 0 := by rw [hx, List.getD_eq_getElem?_getD, List.getElem?_eq_none (by have := HN.out; omega)]; rfl
        clear hx
        obtain rfl := hx0
        have hB : j < M := by omega
        have hLb : j < b.length := by have := HM.out; omega
        obtain ⟨gb, rfl, hgb, hcell⟩ := HXB.out (by intro e; rw [e] at hLb; simp at hLb)
        have hcy : w.cell? ⟨gb, j, none⟩ = some (.int .u32 (y : Int)) := by rw [hy, hcell j hLb]; simp [hLb]
        clear hcell hy hLb
        rcases (show 0 = y ∨ 0 < y ∨ y < 0 by omega) with hc | hc | hc
        · obtain rfl := hc.symm
          go_wp2_with fail
          go_roundg j
          case measure => omega
          case rel => exact ⟨rfl, by omega, by first | rfl | (exact congrArg _ (by omega)), by rw [longN_drop a j, longN_drop b j, HXE.out, HYE.out, HD.out]⟩
        · have hcI : (0 : Int) < (y : Int) := by omega
          go_wp2_with fail
          go_ret
          exact ⟨by rw [less_yes HD.out HA.out.dig HB.out.dig (by rw [HXE.out, HYE.out]; omega)]; first | rfl | (refine congrArg Ending.returned (congrArg Value.bool ?_); simp; omega), rfl⟩
        · omega

set_option maxHeartbeats 2000000 in
set_option maxRecDepth 20000 in
theorem refZero_any (va : Value) (a : List Nat) (w : World) (ha : LongR w va a) :
    Calls Tryz.prog 84 #[va] w fun e w' => e = .returned (.bool (decide (longN a = 0))) ∧ Below w.heap.size w w' := by
  have hv : ∃ A c, va = .slice A a.length c := by
    obtain ⟨A, c, e, _⟩ := ha.at_
    exact ⟨A, c, e⟩
  obtain ⟨A, c, rfl⟩ := hv
  have hbl : ∀ o, Below w.heap.size w (w.alloc o) := fun o => (Below.refl _ w).alloc (Nat.le_refl _) o
  have h1 : LongR (w.alloc (.cells #[.int .u32 1] 68)) (.slice (some ⟨w.heap.size, 0, none⟩) 1 1) [1] := by
    refine ⟨by simp, by simp, some ⟨w.heap.size, 0, none⟩, 1, rfl, by simp, by simp, fun _ => ⟨w.heap.size, rfl, by simp, fun j hj => ?_⟩⟩
    have : j = 0 := by simp at hj; exact hj
    subst this
    simp
  have hl := refLess_any _ _ a [1] _ (ha.below (hbl (.cells #[.int .u32 1] 68))) h1
  have e1 : longN [1] = 1 := by simp [longN]
  rw [e1] at hl
  have HL := Lib.hid hl
  have HB := Lib.hid (hbl (.cells #[.int .u32 1] 68))
  clear hl h1 e1 hbl ha
  go_enter Tryz.func84, Tryz.ntmps84
  go_wp2_with fail
  refine HL.out.mono ?_
  rintro e w' ⟨rfl, rfl⟩
  go_wp2_with fail
  go_ret
  exact ⟨rfl, HB.out⟩
end Go.Proofs.YtpodgmibghcjdaaGreatDoor
