/-
  fixed.Print: any number, where strconv.FormatUint tells the digits of the whole.
-/
import Derived.Test.YtpodgmibghcjdaaGreatDoorBld
import Derived.Test.YtpodgmibghcjdaaGreatDoorQuot
import Derived.WalkKit
import Derived.WalkLawsBesides
import Derived.Deep.LoopGhost
import Derived.Deep.DeepCutAuto
import Derived.Outline
import Derived.Lib.ItoaLen
namespace Go.Proofs.YtpodgmibghcjdaaGreatDoor
open Go Go.RowKit

/-- the decimals of a part of 65536, at most so many -/
def fracF : Nat → Nat → List UInt8
  | 0, _ => []
  | f + 1, p => if p = 0 then [] else UInt8.ofNat (48 + p * 10 / 65536) :: fracF f (p * 10 % 65536)

/-- what fixed.Print tells -/
def printL (n : Int) : List UInt8 :=
  (if n < 0 then [45] else []) ++ Lib.decDigits (n.natAbs / 65536) ++ (if n.natAbs % 65536 = 0 then [] else 46 :: fracF 16 (n.natAbs % 65536))

theorem own_stays {w w' : World} {B e size n : Nat} {v : Value} {xs : List Value} (h : w.ownsRow B e size v n xs) (hb : Below w.heap.size w w') : w'.ownsRow B e size v n xs :=
  h.kept (row := none) ⟨hb.os, hb.tape, hb.output, hb.size, fun k hk _ => hb.block k hk⟩ (by
    rcases hv : v.ownBlock with _ | g
    · exact .inl rfl
    · exact .inr (by simp))

theorem isB_stays {B b : Nat} {bs : List Value} {w w' : World} (h : IsB B b bs w) (hb : Below w.heap.size w w') : IsB B b bs w' := by
  rcases h with h | h
  · have hlt := h.lt
    obtain ⟨hB, v, hk, hown, hne⟩ := h
    exact .inl ⟨hB, v, by rw [hb.block b hlt]; exact hk, own_stays hown hb, hne⟩
  · have hlt := h.lt
    obtain ⟨hB, v, hk, hown, hne⟩ := h
    exact .inr ⟨hB, v, by rw [hb.block b hlt]; exact hk, own_stays hown hb, hne⟩

theorem fracF_zero (f : Nat) : fracF f 0 = [] := by cases f <;> simp [fracF]

theorem formatUint_small (u : Nat) (hu : u < 100) (w : World) :
    Calls Tryz.prog 23 #[.int .u64 u, .int .i64 10] w fun e w' => e = .returned (.string ⟨(Lib.decDigits u).toArray⟩) ∧ w = w' := by
  go_enter Tryz.func23, Tryz.ntmps23
  go_wp2_with (first | (go_at_call 47; go_in) | (go_at_call 69; refine (Tryz.internal_strconv_small u hu _).mono ?_; rintro e w' ⟨rfl, rfl⟩))
  go_ret
  exact ⟨rfl, rfl⟩

/-- at the head of each round of Print's loop -/
def Decimals (B b : Nat) (full : List UInt8) (w : World) (k : Nat) (part : Value) (wr : World) : Prop :=
  ∃ (p : Nat) (done : List UInt8), part = .int .u64 (p : Int) ∧ p < 65536 ∧ p % 2 ^ (16 - k) = 0 ∧ k ≤ 16 ∧ done.length + k ≤ 60 ∧ done ++ fracF k p = full ∧ IsB B b (Lib.byteCells done) wr ∧ Below B w wr

theorem decimals_step {B b k p : Nat} {done full : List UInt8} {w wr : World} (hp : p < 65536) (h0 : p ≠ 0) (hm : p % 2 ^ (16 - k) = 0) (hk : k ≤ 16) (hl : done.length + k ≤ 60) (hf : done ++ fracF k p = full)
    (hb : IsB B b (Lib.byteCells done ++ [.int .u8 (48 + (p : Int) * 10 / 65536)]) wr) (hw : Below B w wr) : 1 ≤ k ∧ Decimals B b full w (k - 1) (.int .u64 ((p : Int) * 10 % 65536)) wr := by
  have h1 : 1 ≤ k := by
    rcases Nat.eq_zero_or_pos k with rfl | h
    · simp at hm; omega
    · exact h
  obtain ⟨j, rfl⟩ : ∃ j, k = j + 1 := ⟨k - 1, by omega⟩
  refine ⟨h1, p * 10 % 65536, done ++ [UInt8.ofNat (48 + p * 10 / 65536)], congrArg _ (by omega), by omega, ?_, by omega, by simp; omega, ?_, ?_, hw⟩
  · have e : 2 ^ (16 - (j + 1 - 1)) = 2 ^ (16 - (j + 1)) * 2 := by rw [show 16 - (j + 1 - 1) = (16 - (j + 1)) + 1 by omega, Nat.pow_succ]
    have e16 : (65536 : Nat) = 2 ^ (16 - (j + 1 - 1)) * 2 ^ (j + 1 - 1) := by rw [← Nat.pow_add, show 16 - (j + 1 - 1) + (j + 1 - 1) = 16 by omega]
    have hd : 2 ^ (16 - (j + 1)) ∣ p := Nat.dvd_of_mod_eq_zero hm
    apply Nat.mod_eq_zero_of_dvd
    have hd2 : 2 ^ (16 - (j + 1 - 1)) ∣ p * 10 := by
      rw [e, show p * 10 = p * 5 * 2 by omega]
      exact Nat.mul_dvd_mul (Nat.dvd_trans hd (Nat.dvd_mul_right _ _)) (Nat.dvd_refl 2)
    exact (Nat.dvd_mod_iff (by rw [e16]; exact Nat.dvd_mul_right _ _)).2 hd2
  · rw [← hf]; simp [fracF, h0]
  · rw [Lib.byteCells_append]
    have : Lib.byteCells [UInt8.ofNat (48 + p * 10 / 65536)] = [.int .u8 (48 + (p : Int) * 10 / 65536)] := by
      have hlt : 48 + p * 10 / 65536 < 256 := by omega
      simp [Lib.byteCells, UInt8.toNat_ofNat, Nat.mod_eq_of_lt hlt]
    rw [this]; exact hb

theorem nDigits_le (u : Nat) (hu : u < 18446744073709551616) : (Lib.decDigits u).length ≤ 20 := by
  rw [Lib.decDigits_length]
  exact Lib.nDigits_le20 u hu

set_option maxRecDepth 100000 in
set_option maxHeartbeats 2000000 in
theorem print_any (n : Int) (h1 : -9223372036854775808 ≤ n) (h2 : n ≤ 9223372036854775807) (w : World)
    (hFU : ∀ w', Below w.heap.size w w' → Calls Tryz.prog 23 #[.int .u64 ((n.natAbs / 65536 : Nat) : Int), .int .i64 10] w' fun e w'' => e = .returned (.string ⟨(Lib.decDigits (n.natAbs / 65536)).toArray⟩) ∧ Below w'.heap.size w' w'') :
    Calls Tryz.prog 6 #[.int .i64 n] w fun e w' => e = .returned (.string ⟨(printL n).toArray⟩) ∧ Below w.heap.size w w' := by
  have hMl : n.natAbs ≤ 9223372036854775808 := by omega
  have hlen := nDigits_le (n.natAbs / 65536) (by omega)
  obtain ⟨full, hfull⟩ : ∃ full, full = printL n := ⟨_, rfl⟩
  have HF : Hid (full = printL n) := Lib.hid hfull
  rw [← hfull]
  clear hfull
  obtain ⟨M, hM⟩ : ∃ M, M = n.natAbs := ⟨_, rfl⟩
  obtain ⟨W, hW⟩ : ∃ W, W = M / 65536 := ⟨_, rfl⟩
  obtain ⟨P, hP⟩ : ∃ P, P = M % 65536 := ⟨_, rfl⟩
  rw [← hM, ← hW] at hFU
  rw [← hM] at hMl
  rw [← hM, ← hW] at hlen
  have hPl : P < 65536 := by omega
  have r1 : (M : Int) / 65536 = (W : Int) := by omega
  have r2 : (M : Int) % 65536 = (P : Int) := by omega
  have hmag : ∀ w, Calls Tryz.prog 21 #[.int .i64 n] w fun e w' => e = .returned (.int .u64 (M : Int)) ∧ w = w' := fun w => by rw [hM]; exact magnitude_any n h1 h2 w
  have HPW : Hid (printL n = (if n < 0 then [45] else []) ++ Lib.decDigits W ++ (if P = 0 then [] else 46 :: fracF 16 P)) := Lib.hid (by unfold printL; rw [← hM, ← hW, ← hP])
  have HM := Lib.hid hmag
  have HU := Lib.hid hFU
  clear hmag hFU hM hW hP
  have hnew := Lib.fresh_isBuilder 42 5 w
  have hbl0 : Below w.heap.size w (w.alloc (.cells #[.pointer none, .slice none 0 0] 42)) := (Below.refl _ _).alloc (Nat.le_refl _) _
  by_cases hneg : n < 0
  · have HPRE : Hid (printL n = [45] ++ Lib.decDigits W ++ (if P = 0 then [] else 46 :: fracF 16 P)) := Lib.hid (by rw [HPW.out, if_pos hneg])
    go_enter Tryz.func6, Tryz.ntmps6
    go_wp2_with fail
    refine (writeByte_any w.heap.size w.heap.size [] 45 _ hnew (by simp) hbl0.size).mono ?_
    rintro e w1 ⟨rfl, hB1, hb1⟩
    have hbl1 := hbl0.trans hb1
    have hz1 := hbl1.size
    clear hb1
    go_wp2_with (go_at_call 21; refine (HM.out _).mono ?_; rintro e w' ⟨rfl, rfl⟩)
    simp only [r2]
    refine (HU.out _ hbl1).mono ?_
    rintro e w2 ⟨rfl, hb2⟩
    have hbl2 := hbl1.trans (hb2.mono hz1)
    have hz2 := hbl2.size
    have hB2 := isB_stays hB1 hb2
    go_wp2_with fail
    refine (writeString_any w.heap.size w.heap.size _ _ _ hB2 (by simp [ByteArray.size]; omega) hz2).mono ?_
    rintro e w3 ⟨rfl, hB3, hb3⟩
    have hbl := hbl2.trans hb3
    have hz3 := hbl.size
    have hcell : IsB w.heap.size w.heap.size (Lib.byteCells ([45] ++ Lib.decDigits W)) w3 := by
      rw [Lib.byteCells_append]; exact hB3
    clear hB3 hB2 hB1 hb3 hb2 hz2 hbl2 hbl1 hz1 hnew hbl0
    by_cases hP0 : P = 0
    · have hp0 : ((P : Int) != 0) = false := by simp [hP0]
      have HP0' := Lib.hid hP0
      clear hP0
      go_wp2_with fail
      go_loopg [5] 16 (fun k part wr => Decimals w.heap.size w.heap.size full w k part wr)
      case atStart =>
        exact ⟨P, [45] ++ Lib.decDigits W, rfl, hPl, by simp [Nat.mod_one], by omega, by simp; omega, by rw [HF.out, HPRE.out, if_pos HP0'.out, HP0'.out, fracF_zero], hcell, hbl⟩
      case round =>
        obtain ⟨p, done, rfl, hp, hm, hk, hl, hf, hIs, hblr⟩ := hrel
        have HM1 : Hid (p % 2 ^ (16 - gk) = 0) := Lib.hid hm
        have HF1 : Hid (done ++ fracF gk p = full) := Lib.hid hf
        clear hm hf
        have hzr := hblr.size
        by_cases hp0 : p = 0
        · have hpb : ((p : Int) != 0) = false := by simp [hp0]
          have HP0 := Lib.hid hp0
          clear hp0
          go_wp2_with fail
          refine (Tryz.Builder_String_any w.heap.size w.heap.size done wr hIs hzr).mono ?_
          rintro e w9 ⟨rfl, hb9⟩
          go_wp2_with fail
          go_ret
          have hfin : done = full := by rw [← HF1.out, HP0.out, fracF_zero, List.append_nil]
          exact ⟨by rw [hfin]; rfl, hblr.trans hb9⟩
        · have hpb : ((p : Int) != 0) = true := by simp [hp0]
          have hq1 : (0 : Int) ≤ (p : Int) * 10 / 65536 := by omega
          have hq2 : (p : Int) * 10 / 65536 ≤ 9 := by omega
          go_wp2_with fail
          refine (writeByte_any w.heap.size w.heap.size _ _ _ hIs (by simp [Lib.byteCells_length]; omega) hzr).mono ?_
          rintro e w9 ⟨rfl, hB9, hb9⟩
          have hst := decimals_step (full := full) (w := w) hp hp0 HM1.out hk hl HF1.out hB9 (hblr.trans hb9)
          go_wp2_with fail
          go_roundg (gk - 1)
          case measure => omega
          case rel => exact hst.2
    · have hp0 : ((P : Int) != 0) = true := by simp [hP0]
      go_wp2_with fail
      refine (writeByte_any w.heap.size w.heap.size _ _ _ hcell (by simp [Lib.byteCells_length]; omega) hz3).mono ?_
      rintro e w4 ⟨rfl, hB4, hb4⟩
      have hbl' := hbl.trans hb4
      have hcell' : IsB w.heap.size w.heap.size (Lib.byteCells ([45] ++ Lib.decDigits W ++ [46])) w4 := by
        rw [Lib.byteCells_append]; exact hB4
      clear hB4 hb4 hcell hbl hz3
      go_wp2_with fail
      go_loopg [5] 16 (fun k part wr => Decimals w.heap.size w.heap.size full w k part wr)
      case atStart =>
        exact ⟨P, [45] ++ Lib.decDigits W ++ [46], rfl, hPl, by simp [Nat.mod_one], by omega, by simp; omega, by rw [HF.out, HPRE.out, if_neg hP0, List.append_assoc ([45] ++ Lib.decDigits W)]; rfl, hcell', hbl'⟩
      case round =>
        obtain ⟨p, done, rfl, hp, hm, hk, hl, hf, hIs, hblr⟩ := hrel
        have HM1 : Hid (p % 2 ^ (16 - gk) = 0) := Lib.hid hm
        have HF1 : Hid (done ++ fracF gk p = full) := Lib.hid hf
        clear hm hf
        have hzr := hblr.size
        by_cases hp0 : p = 0
        · have hpb : ((p : Int) != 0) = false := by simp [hp0]
          have HP0 := Lib.hid hp0
          clear hp0
          go_wp2_with fail
          refine (Tryz.Builder_String_any w.heap.size w.heap.size done wr hIs hzr).mono ?_
          rintro e w9 ⟨rfl, hb9⟩
          go_wp2_with fail
          go_ret
          have hfin : done = full := by rw [← HF1.out, HP0.out, fracF_zero, List.append_nil]
          exact ⟨by rw [hfin]; rfl, hblr.trans hb9⟩
        · have hpb : ((p : Int) != 0) = true := by simp [hp0]
          have hq1 : (0 : Int) ≤ (p : Int) * 10 / 65536 := by omega
          have hq2 : (p : Int) * 10 / 65536 ≤ 9 := by omega
          go_wp2_with fail
          refine (writeByte_any w.heap.size w.heap.size _ _ _ hIs (by simp [Lib.byteCells_length]; omega) hzr).mono ?_
          rintro e w9 ⟨rfl, hB9, hb9⟩
          have hst := decimals_step (full := full) (w := w) hp hp0 HM1.out hk hl HF1.out hB9 (hblr.trans hb9)
          go_wp2_with fail
          go_roundg (gk - 1)
          case measure => omega
          case rel => exact hst.2
  · have HPRE : Hid (printL n = [] ++ Lib.decDigits W ++ (if P = 0 then [] else 46 :: fracF 16 P)) := Lib.hid (by rw [HPW.out, if_neg hneg])
    go_enter Tryz.func6, Tryz.ntmps6
    go_wp2_with (go_at_call 21; refine (HM.out _).mono ?_; rintro e w' ⟨rfl, rfl⟩)
    have hB1 : IsB w.heap.size w.heap.size (Lib.byteCells []) (w.alloc (.cells #[.pointer none, .slice none 0 0] 42)) := hnew
    have hbl1 := hbl0
    have hz1 := hbl1.size
    simp only [r2]
    refine (HU.out _ hbl1).mono ?_
    rintro e w2 ⟨rfl, hb2⟩
    have hbl2 := hbl1.trans (hb2.mono hz1)
    have hz2 := hbl2.size
    have hB2 := isB_stays hB1 hb2
    go_wp2_with fail
    refine (writeString_any w.heap.size w.heap.size _ _ _ hB2 (by simp [Lib.byteCells_length, ByteArray.size]; omega) hz2).mono ?_
    rintro e w3 ⟨rfl, hB3, hb3⟩
    have hbl := hbl2.trans hb3
    have hz3 := hbl.size
    have hcell : IsB w.heap.size w.heap.size (Lib.byteCells ([] ++ Lib.decDigits W)) w3 := by
      rw [Lib.byteCells_append]; exact hB3
    clear hB3 hB2 hB1 hb3 hb2 hz2 hbl2 hbl1 hz1 hnew hbl0
    by_cases hP0 : P = 0
    · have hp0 : ((P : Int) != 0) = false := by simp [hP0]
      have HP0' := Lib.hid hP0
      clear hP0
      go_wp2_with fail
      go_loopg [5] 16 (fun k part wr => Decimals w.heap.size w.heap.size full w k part wr)
      case atStart =>
        exact ⟨P, [] ++ Lib.decDigits W, rfl, hPl, by simp [Nat.mod_one], by omega, by simp; omega, by rw [HF.out, HPRE.out, if_pos HP0'.out, HP0'.out, fracF_zero], hcell, hbl⟩
      case round =>
        obtain ⟨p, done, rfl, hp, hm, hk, hl, hf, hIs, hblr⟩ := hrel
        have HM1 : Hid (p % 2 ^ (16 - gk) = 0) := Lib.hid hm
        have HF1 : Hid (done ++ fracF gk p = full) := Lib.hid hf
        clear hm hf
        have hzr := hblr.size
        by_cases hp0 : p = 0
        · have hpb : ((p : Int) != 0) = false := by simp [hp0]
          have HP0 := Lib.hid hp0
          clear hp0
          go_wp2_with fail
          refine (Tryz.Builder_String_any w.heap.size w.heap.size done wr hIs hzr).mono ?_
          rintro e w9 ⟨rfl, hb9⟩
          go_wp2_with fail
          go_ret
          have hfin : done = full := by rw [← HF1.out, HP0.out, fracF_zero, List.append_nil]
          exact ⟨by rw [hfin]; rfl, hblr.trans hb9⟩
        · have hpb : ((p : Int) != 0) = true := by simp [hp0]
          have hq1 : (0 : Int) ≤ (p : Int) * 10 / 65536 := by omega
          have hq2 : (p : Int) * 10 / 65536 ≤ 9 := by omega
          go_wp2_with fail
          refine (writeByte_any w.heap.size w.heap.size _ _ _ hIs (by simp [Lib.byteCells_length]; omega) hzr).mono ?_
          rintro e w9 ⟨rfl, hB9, hb9⟩
          have hst := decimals_step (full := full) (w := w) hp hp0 HM1.out hk hl HF1.out hB9 (hblr.trans hb9)
          go_wp2_with fail
          go_roundg (gk - 1)
          case measure => omega
          case rel => exact hst.2
    · have hp0 : ((P : Int) != 0) = true := by simp [hP0]
      go_wp2_with fail
      refine (writeByte_any w.heap.size w.heap.size _ _ _ hcell (by simp [Lib.byteCells_length]; omega) hz3).mono ?_
      rintro e w4 ⟨rfl, hB4, hb4⟩
      have hbl' := hbl.trans hb4
      have hcell' : IsB w.heap.size w.heap.size (Lib.byteCells ([] ++ Lib.decDigits W ++ [46])) w4 := by
        rw [Lib.byteCells_append]; exact hB4
      clear hB4 hb4 hcell hbl hz3
      go_wp2_with fail
      go_loopg [5] 16 (fun k part wr => Decimals w.heap.size w.heap.size full w k part wr)
      case atStart =>
        exact ⟨P, [] ++ Lib.decDigits W ++ [46], rfl, hPl, by simp [Nat.mod_one], by omega, by simp; omega, by rw [HF.out, HPRE.out, if_neg hP0, List.append_assoc ([] ++ Lib.decDigits W)]; rfl, hcell', hbl'⟩
      case round =>
        obtain ⟨p, done, rfl, hp, hm, hk, hl, hf, hIs, hblr⟩ := hrel
        have HM1 : Hid (p % 2 ^ (16 - gk) = 0) := Lib.hid hm
        have HF1 : Hid (done ++ fracF gk p = full) := Lib.hid hf
        clear hm hf
        have hzr := hblr.size
        by_cases hp0 : p = 0
        · have hpb : ((p : Int) != 0) = false := by simp [hp0]
          have HP0 := Lib.hid hp0
          clear hp0
          go_wp2_with fail
          refine (Tryz.Builder_String_any w.heap.size w.heap.size done wr hIs hzr).mono ?_
          rintro e w9 ⟨rfl, hb9⟩
          go_wp2_with fail
          go_ret
          have hfin : done = full := by rw [← HF1.out, HP0.out, fracF_zero, List.append_nil]
          exact ⟨by rw [hfin]; rfl, hblr.trans hb9⟩
        · have hpb : ((p : Int) != 0) = true := by simp [hp0]
          have hq1 : (0 : Int) ≤ (p : Int) * 10 / 65536 := by omega
          have hq2 : (p : Int) * 10 / 65536 ≤ 9 := by omega
          go_wp2_with fail
          refine (writeByte_any w.heap.size w.heap.size _ _ _ hIs (by simp [Lib.byteCells_length]; omega) hzr).mono ?_
          rintro e w9 ⟨rfl, hB9, hb9⟩
          have hst := decimals_step (full := full) (w := w) hp hp0 HM1.out hk hl HF1.out hB9 (hblr.trans hb9)
          go_wp2_with fail
          go_roundg (gk - 1)
          case measure => omega
          case rel => exact hst.2
end Go.Proofs.YtpodgmibghcjdaaGreatDoor
