/-
  The document's decimals (calamusref01.size, digits, Print).
-/
import Derived.Test.YtpodgmibghcjdaaGreatDoorPrt
namespace Go.Proofs.YtpodgmibghcjdaaGreatDoor
open Go Go.RowKit

theorem refSize_any (n : Int) (h1 : -9223372036854775808 ≤ n) (h2 : n ≤ 9223372036854775807) (w : World) :
    Calls Tryz.prog 65 #[.int .i64 n] w fun e w' => e = .returned (.int .u64 (n.natAbs : Int)) ∧ w = w' := by
  by_cases h : n < 0
  · go_enter Tryz.func65, Tryz.ntmps65
    go_wp2
    go_ret
    exact ⟨ret_int (by first | omega | (simp only [IntKind.wrap_u64, wrap64]; omega)), rfl⟩
  · go_enter Tryz.func65, Tryz.ntmps65
    go_wp2
    go_ret
    exact ⟨ret_int (by first | omega | (simp only [IntKind.wrap_u64, wrap64]; omega)), rfl⟩

theorem str_app (a b : List UInt8) : (ByteArray.mk a.toArray) ++ (ByteArray.mk b.toArray) = ByteArray.mk (a ++ b).toArray := by
  apply ByteArray.ext
  apply Array.toList_inj.1
  simp [ByteArray.data_append]

theorem digit_str (k : Nat) (hk : k < 10) : (ByteArray.mk #[48, 49, 50, 51, 52, 53, 54, 55, 56, 57]).extract k (k + 1) = ByteArray.mk #[UInt8.ofNat (48 + k)] := by
  have h : ∀ k : Fin 10, (ByteArray.mk #[48, 49, 50, 51, 52, 53, 54, 55, 56, 57]).extract k.val (k.val + 1) = ByteArray.mk #[UInt8.ofNat (48 + k.val)] := by decide
  exact h ⟨k, hk⟩

/-- at the head of each round of digits -/
def DigsRel (full : List UInt8) (w : World) (g : Nat) (v0 v3 : Value) (wr : World) : Prop :=
  w = wr ∧ ∃ (m : Nat) (l : List UInt8), v0 = .int .u64 (m : Int) ∧ v3 = .string ⟨l.toArray⟩ ∧ m < 18446744073709551616 ∧ l.length ≤ 20 ∧
    ((m = 0 ∧ l ≠ [] ∧ l = full) ∨ ((m ≠ 0 ∨ l = []) ∧ Lib.decDigits m ++ l = full ∧ (Lib.decDigits m).length ≤ g))

theorem dec_step (m : Nat) : Lib.decDigits m = (if m < 10 then [] else Lib.decDigits (m / 10)) ++ [UInt8.ofNat (48 + m % 10)] := by
  rw [Lib.decDigits]
  by_cases h : m < 10
  · rw [dif_pos h, if_pos h, Nat.mod_eq_of_lt h]; rfl
  · rw [dif_neg h, if_neg h]

theorem digs_next {full l : List UInt8} {m g : Nat} {w : World} (hm : m < 18446744073709551616) (hf : Lib.decDigits m ++ l = full) (hg : (Lib.decDigits m).length ≤ g) (hfl : full.length ≤ 20) :
    1 ≤ g ∧ DigsRel full w (g - 1) (.int .u64 ((m / 10 : Nat) : Int)) (.string ⟨(UInt8.ofNat (48 + m % 10) :: l).toArray⟩) w := by
  have hs := dec_step m
  have hlen : (Lib.decDigits m).length + l.length = full.length := by rw [← hf, List.length_append]
  have h1 : 1 ≤ (Lib.decDigits m).length := by rw [hs]; simp
  refine ⟨by omega, rfl, m / 10, _, rfl, rfl, by omega, by simp; omega, ?_⟩
  by_cases h : m < 10
  · rw [if_pos h] at hs
    exact .inl ⟨by omega, by simp, by rw [← hf, hs]; rfl⟩
  · rw [if_neg h] at hs
    refine .inr ⟨.inl (by omega), by rw [← hf, hs]; simp, ?_⟩
    have : (Lib.decDigits m).length = (Lib.decDigits (m / 10)).length + 1 := by rw [hs]; simp
    omega

set_option maxHeartbeats 1000000 in
set_option maxRecDepth 20000 in
theorem refDigits_any (n : Nat) (hn : n < 18446744073709551616) (w : World) :
    Calls Tryz.prog 66 #[.int .u64 n] w fun e w' => e = .returned (.string ⟨(Lib.decDigits n).toArray⟩) ∧ w = w' := by
  have hfl := nDigits_le n hn
  obtain ⟨full, hF⟩ : ∃ full, full = Lib.decDigits n := ⟨_, rfl⟩
  have HF := Lib.hid hF
  rw [← hF] at hfl ⊢
  clear hF
  go_enter Tryz.func66, Tryz.ntmps66
  go_wp2_with fail
  go_loopg [0, 3] 20 (fun g v0 v3 wr => DigsRel full w g v0 v3 wr)
  case atStart => exact ⟨rfl, n, [], rfl, rfl, hn, by simp, .inr ⟨.inr rfl, by rw [HF.out, List.append_nil], by rw [← HF.out]; exact hfl⟩⟩
  case round =>
    obtain ⟨rfl, m, l, rfl, rfl, hm, hl, hc⟩ := hrel
    rcases hc with ⟨h0, h1, h2⟩ | ⟨h1, h2, h3⟩
    · obtain rfl := h0
      have hne : (ByteArray.mk l.toArray).toList.isEmpty = false := by
        rw [ByteArray.toList_eq]; cases l with
        | nil => exact absurd rfl h1
        | cons _ _ => rfl
      have hne2 : l.isEmpty = false := by cases l with
        | nil => exact absurd rfl h1
        | cons _ _ => rfl
      have H2 := Lib.hid h2
      clear h1 h2
      go_wp2_with fail
      go_ret
      exact ⟨by rw [← H2.out]; rfl, rfl⟩
    · have hn := digs_next (w := w) hm h2 h3 hfl
      have hd := digit_str (m % 10) (by omega)
      have hm0 : (0 : Int) ≤ (m : Int) % 10 := by omega
      have hm1 : (m : Int) % 10 ≤ 9 := by omega
      obtain ⟨k, hk⟩ : ∃ k, k = m % 10 := ⟨_, rfl⟩
      have hk10 : k < 10 := by omega
      have rk : (m : Int) % 10 = (k : Int) := by omega
      obtain ⟨q, hq⟩ : ∃ q, q = m / 10 := ⟨_, rfl⟩
      have rq : (m : Int) / 10 = (q : Int) := by omega
      have rq2 : IntKind.u64.wrap ((m : Int) / 10) = (q : Int) := by rw [IntKind.wrap_u64]; omega
      rw [← hk] at hd hn
      rw [← hq] at hn
      obtain ⟨dd, hdd⟩ : ∃ dd, dd = UInt8.ofNat (48 + k) := ⟨_, rfl⟩
      rw [← hdd] at hd hn
      have HDD := Lib.hid hdd
      have HN := Lib.hid hn
      have HD := Lib.hid hd
      have HC := Lib.hid h1
      clear hn hd h2 h3 hk hq h1 hdd
      by_cases hpos : m = 0
      · have hle : l = [] := by rcases HC.out with h | h; exact absurd hpos h; exact h
        obtain rfl := hle
        obtain rfl := hpos
        obtain rfl : k = 0 := by omega
        obtain rfl : q = 0 := by omega
        obtain rfl := HDD.out
        clear rk rq rq2 hm0 hm1 HC hk10
        go_wp2_with fail
        go_roundg (gk - 1)
        case measure => have := HN.out.1; omega
        case rel => exact HN.out.2
      · have hp0 : (0 : Int) < m := by omega
        have hmI : (m : Int) ≤ 18446744073709551615 := by omega
        have hkI : (k : Int) ≤ 9 := by omega
        have hsl : ∀ wx : World, (Instr.slice 9 (.string (ByteArray.mk #[48, 49, 50, 51, 52, 53, 54, 55, 56, 57])) (some (.int .u64 (k : Int))) (some (.int .u64 ((k : Int) + 1))) none).run Tryz.prog wx = .ok (.string (ByteArray.mk #[dd])) wx := by
          intro wx
          have h := run_slice_string (P := Tryz.prog) wx 9 (ByteArray.mk #[48, 49, 50, 51, 52, 53, 54, 55, 56, 57]) .u64 .u64 (k : Int) ((k : Int) + 1) Tryz.underlying9 (by omega) (by omega) (by show (k : Int) + 1 ≤ 10; omega)
          have e1 : ((k : Int)).toNat = k := by omega
          have e2 : ((k : Int) + 1).toNat = k + 1 := by omega
          rw [e1, e2, HD.out] at h
          exact h
        clear hpos hm hk10
        go_wp2_with fail
        go_roundg (gk - 1)
        case measure => have := HN.out.1; omega
        case rel =>
          have e : ByteArray.mk #[dd] ++ ByteArray.mk l.toArray = ByteArray.mk (dd :: l).toArray := str_app [dd] l
          rw [e]
          exact HN.out.2

theorem dec_digit (k : Nat) (hk : k < 10) : Lib.decDigits k = [UInt8.ofNat (48 + k)] := by
  rw [dec_step, if_pos hk, Nat.mod_eq_of_lt hk]; rfl

/-- at the head of each round of the document's fraction -/
def FracRel (full : List UInt8) (w : World) (k : Nat) (v2 v3 : Value) (wr : World) : Prop :=
  w = wr ∧ ∃ (p : Nat) (done : List UInt8), v3 = .int .u64 (p : Int) ∧ v2 = .string ⟨done.toArray⟩ ∧ p < 65536 ∧ p % 2 ^ (16 - k) = 0 ∧ k ≤ 16 ∧ done.length + k ≤ 60 ∧ done ++ fracF k p = full

theorem frac_next {k p : Nat} {done full : List UInt8} {w : World} (hp : p < 65536) (h0 : p ≠ 0) (hm : p % 2 ^ (16 - k) = 0) (hk : k ≤ 16) (hl : done.length + k ≤ 60) (hf : done ++ fracF k p = full) :
    1 ≤ k ∧ FracRel full w (k - 1) (.string ⟨(done ++ Lib.decDigits (p * 10 / 65536)).toArray⟩) (.int .u64 ((p * 10 % 65536 : Nat) : Int)) w := by
  have h1 : 1 ≤ k := by
    rcases Nat.eq_zero_or_pos k with rfl | h
    · simp at hm; omega
    · exact h
  obtain ⟨j, rfl⟩ : ∃ j, k = j + 1 := ⟨k - 1, by omega⟩
  refine ⟨h1, rfl, p * 10 % 65536, done ++ Lib.decDigits (p * 10 / 65536), rfl, rfl, by omega, ?_, by omega, by rw [dec_digit _ (by omega)]; simp; omega, ?_⟩
  · have e : 2 ^ (16 - (j + 1 - 1)) = 2 ^ (16 - (j + 1)) * 2 := by rw [show 16 - (j + 1 - 1) = (16 - (j + 1)) + 1 by omega, Nat.pow_succ]
    have e16 : (65536 : Nat) = 2 ^ (16 - (j + 1 - 1)) * 2 ^ (j + 1 - 1) := by rw [← Nat.pow_add, show 16 - (j + 1 - 1) + (j + 1 - 1) = 16 by omega]
    have hd : 2 ^ (16 - (j + 1)) ∣ p := Nat.dvd_of_mod_eq_zero hm
    apply Nat.mod_eq_zero_of_dvd
    have hd2 : 2 ^ (16 - (j + 1 - 1)) ∣ p * 10 := by
      rw [e, show p * 10 = p * 5 * 2 by omega]
      exact Nat.mul_dvd_mul (Nat.dvd_trans hd (Nat.dvd_mul_right _ _)) (Nat.dvd_refl 2)
    exact (Nat.dvd_mod_iff (by rw [e16]; exact Nat.dvd_mul_right _ _)).2 hd2
  · rw [dec_digit _ (by omega), ← hf]; simp [fracF, h0]

set_option maxHeartbeats 1000000 in
set_option maxRecDepth 20000 in
theorem refPrint_any (n : Int) (h1 : -9223372036854775808 ≤ n) (h2 : n ≤ 9223372036854775807) (w : World) :
    Calls Tryz.prog 42 #[.int .i64 n] w fun e w' => e = .returned (.string ⟨(printL n).toArray⟩) ∧ w = w' := by
  have hSZ := fun w => refSize_any n h1 h2 w
  obtain ⟨M, hM⟩ : ∃ M, M = n.natAbs := ⟨_, rfl⟩
  rw [← hM] at hSZ
  have hMl : M ≤ 9223372036854775808 := by omega
  obtain ⟨W, hW⟩ : ∃ W, W = M / 65536 := ⟨_, rfl⟩
  obtain ⟨P, hP⟩ : ∃ P, P = M % 65536 := ⟨_, rfl⟩
  have hDG := fun w => refDigits_any W (by omega) w
  have hPl : P < 65536 := by omega
  have r1 : (M : Int) / 65536 = (W : Int) := by omega
  have r2 : (M : Int) % 65536 = (P : Int) := by omega
  have hW2 : (W : Int) ≤ 9223372036854775807 := by omega
  have hPI : (P : Int) ≤ 65535 := by omega
  obtain ⟨full, hF⟩ : ∃ full, full = printL n := ⟨_, rfl⟩
  have HPW : Hid (full = (if n < 0 then [45] else []) ++ Lib.decDigits W ++ (if P = 0 then [] else 46 :: fracF 16 P)) := Lib.hid (by rw [hF, hW, hP, hM]; rfl)
  rw [← hF]
  obtain ⟨dW, hdW⟩ : ∃ dW, dW = Lib.decDigits W := ⟨_, rfl⟩
  have hdl : dW.length ≤ 20 := by rw [hdW]; exact nDigits_le W (by omega)
  rw [← hdW] at hDG HPW
  have HDG := Lib.hid hDG
  have HSZ := Lib.hid hSZ
  have hMI : (M : Int) ≤ 9223372036854775808 := by omega
  clear hF hM hW hP hDG hSZ hdW hMl
  by_cases hneg : n < 0
  · by_cases hP0 : P = 0
    · obtain rfl := hP0
      clear hPl hPI
      replace r2 : (M : Int) % 65536 = 0 := by omega
      go_enter Tryz.func42, Tryz.ntmps42
      go_wp2_with (first | (go_at_call 65; refine (HSZ.out _).mono ?_; rintro e w' ⟨rfl, rfl⟩) | (go_at_call 66; refine (HDG.out _).mono ?_; rintro e w' ⟨rfl, rfl⟩))
      have e45 : ByteArray.mk #[45] ++ ByteArray.mk dW.toArray = ByteArray.mk (45 :: dW).toArray := str_app [45] dW
      try rw [e45]
      try rw [r2]
      go_loopg [4, 5] 16 (fun k v2 v3 wr => FracRel full w k v2 v3 wr)
      case atStart =>
        refine ⟨rfl, 0, 45 :: dW, (by first | rfl | exact congrArg _ r2), by first | rfl | (rw [e45]), by omega, by simp, by omega, by simp; omega, ?_⟩
        rw [HPW.out, if_pos hneg]
        simp [fracF_zero]
      case round =>
        obtain ⟨rfl, p, done, rfl, rfl, hp, hm, hk, hl, hf⟩ := hrel
        by_cases hz : p = 0
        · obtain rfl := hz
          have hfin : done = full := by rw [← hf, fracF_zero, List.append_nil]
          have HFIN := Lib.hid hfin
          clear hfin hf hm
          go_wp2_with fail
          go_ret
          exact ⟨by rw [HFIN.out]; rfl, rfl⟩
        · have hst := frac_next (w := w) hp hz hm hk hl hf
          have hpp : (0 : Int) < p := by omega
          have hpI : (p : Int) ≤ 65535 := by omega
          obtain ⟨q, hq⟩ : ∃ q, q = p * 10 / 65536 := ⟨_, rfl⟩
          obtain ⟨p2, hp2⟩ : ∃ p2, p2 = p * 10 % 65536 := ⟨_, rfl⟩
          have r3 : (p : Int) * 10 / 65536 = (q : Int) := by omega
          have r4 : (p : Int) * 10 % 65536 = (p2 : Int) := by omega
          have hDG3 := fun w => refDigits_any q (by omega) w
          rw [← hq, ← hp2] at hst
          obtain ⟨dq, hdq⟩ : ∃ dq, dq = Lib.decDigits q := ⟨_, rfl⟩
          have hdql : dq.length ≤ 20 := by rw [hdq]; exact nDigits_le q (by omega)
          rw [← hdq] at hst hDG3
          have eq : ByteArray.mk done.toArray ++ ByteArray.mk dq.toArray = ByteArray.mk (done ++ dq).toArray := str_app done dq
          have HST := Lib.hid hst
          have HD3 := Lib.hid hDG3
          have HEQ := Lib.hid eq
          clear hst hDG3 hq hp2 hdq hz hm hf eq hp
          go_wp2_with (go_at_call 66; refine (HD3.out _).mono ?_; rintro e w' ⟨rfl, rfl⟩)
          try simp only [r4]
          go_roundg (gk - 1)
          case measure => have := HST.out.1; omega
          case rel => have h := HST.out.2; rw [← HEQ.out] at h; exact h
    · have hp0 : (0 : Int) < P := by omega
      clear hP0
      go_enter Tryz.func42, Tryz.ntmps42
      go_wp2_with (first | (go_at_call 65; refine (HSZ.out _).mono ?_; rintro e w' ⟨rfl, rfl⟩) | (go_at_call 66; refine (HDG.out _).mono ?_; rintro e w' ⟨rfl, rfl⟩))
      have e45 : ByteArray.mk #[45] ++ ByteArray.mk dW.toArray = ByteArray.mk (45 :: dW).toArray := str_app [45] dW
      try rw [e45]
      have e46 : ByteArray.mk (45 :: dW).toArray ++ ByteArray.mk #[46] = ByteArray.mk (45 :: dW ++ [46]).toArray := str_app (45 :: dW) [46]
      have hdt : decide (0 < P) = true := by simp; omega
      try rw [hdt]
      try rw [e46]
      try rw [r2]
      go_loopg [4, 5] 16 (fun k v2 v3 wr => FracRel full w k v2 v3 wr)
      case atStart =>
        refine ⟨rfl, P, 45 :: dW ++ [46], rfl, by first | rfl | (rw [e45, e46]), by omega, by simp [Nat.mod_one], by omega, by simp; omega, ?_⟩
        rw [HPW.out, if_pos hneg, if_neg (by omega)]
        simp
      case round =>
        obtain ⟨rfl, p, done, rfl, rfl, hp, hm, hk, hl, hf⟩ := hrel
        by_cases hz : p = 0
        · obtain rfl := hz
          have hfin : done = full := by rw [← hf, fracF_zero, List.append_nil]
          have HFIN := Lib.hid hfin
          clear hfin hf hm
          go_wp2_with fail
          go_ret
          exact ⟨by rw [HFIN.out]; rfl, rfl⟩
        · have hst := frac_next (w := w) hp hz hm hk hl hf
          have hpp : (0 : Int) < p := by omega
          have hpI : (p : Int) ≤ 65535 := by omega
          obtain ⟨q, hq⟩ : ∃ q, q = p * 10 / 65536 := ⟨_, rfl⟩
          obtain ⟨p2, hp2⟩ : ∃ p2, p2 = p * 10 % 65536 := ⟨_, rfl⟩
          have r3 : (p : Int) * 10 / 65536 = (q : Int) := by omega
          have r4 : (p : Int) * 10 % 65536 = (p2 : Int) := by omega
          have hDG3 := fun w => refDigits_any q (by omega) w
          rw [← hq, ← hp2] at hst
          obtain ⟨dq, hdq⟩ : ∃ dq, dq = Lib.decDigits q := ⟨_, rfl⟩
          have hdql : dq.length ≤ 20 := by rw [hdq]; exact nDigits_le q (by omega)
          rw [← hdq] at hst hDG3
          have eq : ByteArray.mk done.toArray ++ ByteArray.mk dq.toArray = ByteArray.mk (done ++ dq).toArray := str_app done dq
          have HST := Lib.hid hst
          have HD3 := Lib.hid hDG3
          have HEQ := Lib.hid eq
          clear hst hDG3 hq hp2 hdq hz hm hf eq hp
          go_wp2_with (go_at_call 66; refine (HD3.out _).mono ?_; rintro e w' ⟨rfl, rfl⟩)
          try simp only [r4]
          go_roundg (gk - 1)
          case measure => have := HST.out.1; omega
          case rel => have h := HST.out.2; rw [← HEQ.out] at h; exact h
  · by_cases hP0 : P = 0
    · obtain rfl := hP0
      clear hPl hPI
      replace r2 : (M : Int) % 65536 = 0 := by omega
      go_enter Tryz.func42, Tryz.ntmps42
      go_wp2_with (first | (go_at_call 65; refine (HSZ.out _).mono ?_; rintro e w' ⟨rfl, rfl⟩) | (go_at_call 66; refine (HDG.out _).mono ?_; rintro e w' ⟨rfl, rfl⟩))
      try rw [r2]
      go_loopg [4, 5] 16 (fun k v2 v3 wr => FracRel full w k v2 v3 wr)
      case atStart =>
        refine ⟨rfl, 0, dW, (by first | rfl | exact congrArg _ r2), rfl, by omega, by simp, by omega, by simp; omega, ?_⟩
        rw [HPW.out, if_neg (by omega)]
        simp [fracF_zero]
      case round =>
        obtain ⟨rfl, p, done, rfl, rfl, hp, hm, hk, hl, hf⟩ := hrel
        by_cases hz : p = 0
        · obtain rfl := hz
          have hfin : done = full := by rw [← hf, fracF_zero, List.append_nil]
          have HFIN := Lib.hid hfin
          clear hfin hf hm
          go_wp2_with fail
          go_ret
          exact ⟨by rw [HFIN.out]; rfl, rfl⟩
        · have hst := frac_next (w := w) hp hz hm hk hl hf
          have hpp : (0 : Int) < p := by omega
          have hpI : (p : Int) ≤ 65535 := by omega
          obtain ⟨q, hq⟩ : ∃ q, q = p * 10 / 65536 := ⟨_, rfl⟩
          obtain ⟨p2, hp2⟩ : ∃ p2, p2 = p * 10 % 65536 := ⟨_, rfl⟩
          have r3 : (p : Int) * 10 / 65536 = (q : Int) := by omega
          have r4 : (p : Int) * 10 % 65536 = (p2 : Int) := by omega
          have hDG3 := fun w => refDigits_any q (by omega) w
          rw [← hq, ← hp2] at hst
          obtain ⟨dq, hdq⟩ : ∃ dq, dq = Lib.decDigits q := ⟨_, rfl⟩
          have hdql : dq.length ≤ 20 := by rw [hdq]; exact nDigits_le q (by omega)
          rw [← hdq] at hst hDG3
          have eq : ByteArray.mk done.toArray ++ ByteArray.mk dq.toArray = ByteArray.mk (done ++ dq).toArray := str_app done dq
          have HST := Lib.hid hst
          have HD3 := Lib.hid hDG3
          have HEQ := Lib.hid eq
          clear hst hDG3 hq hp2 hdq hz hm hf eq hp
          go_wp2_with (go_at_call 66; refine (HD3.out _).mono ?_; rintro e w' ⟨rfl, rfl⟩)
          try simp only [r4]
          go_roundg (gk - 1)
          case measure => have := HST.out.1; omega
          case rel => have h := HST.out.2; rw [← HEQ.out] at h; exact h
    · have hp0 : (0 : Int) < P := by omega
      clear hP0
      go_enter Tryz.func42, Tryz.ntmps42
      go_wp2_with (first | (go_at_call 65; refine (HSZ.out _).mono ?_; rintro e w' ⟨rfl, rfl⟩) | (go_at_call 66; refine (HDG.out _).mono ?_; rintro e w' ⟨rfl, rfl⟩))
      have e46 : ByteArray.mk (dW).toArray ++ ByteArray.mk #[46] = ByteArray.mk (dW ++ [46]).toArray := str_app dW [46]
      have hdt : decide (0 < P) = true := by simp; omega
      try rw [hdt]
      try rw [e46]
      try rw [r2]
      go_loopg [4, 5] 16 (fun k v2 v3 wr => FracRel full w k v2 v3 wr)
      case atStart =>
        refine ⟨rfl, P, dW ++ [46], rfl, by first | rfl | (rw [e46]), by omega, by simp [Nat.mod_one], by omega, by simp; omega, ?_⟩
        rw [HPW.out, if_neg (by omega), if_neg (by omega)]
        simp
      case round =>
        obtain ⟨rfl, p, done, rfl, rfl, hp, hm, hk, hl, hf⟩ := hrel
        by_cases hz : p = 0
        · obtain rfl := hz
          have hfin : done = full := by rw [← hf, fracF_zero, List.append_nil]
          have HFIN := Lib.hid hfin
          clear hfin hf hm
          go_wp2_with fail
          go_ret
          exact ⟨by rw [HFIN.out]; rfl, rfl⟩
        · have hst := frac_next (w := w) hp hz hm hk hl hf
          have hpp : (0 : Int) < p := by omega
          have hpI : (p : Int) ≤ 65535 := by omega
          obtain ⟨q, hq⟩ : ∃ q, q = p * 10 / 65536 := ⟨_, rfl⟩
          obtain ⟨p2, hp2⟩ : ∃ p2, p2 = p * 10 % 65536 := ⟨_, rfl⟩
          have r3 : (p : Int) * 10 / 65536 = (q : Int) := by omega
          have r4 : (p : Int) * 10 % 65536 = (p2 : Int) := by omega
          have hDG3 := fun w => refDigits_any q (by omega) w
          rw [← hq, ← hp2] at hst
          obtain ⟨dq, hdq⟩ : ∃ dq, dq = Lib.decDigits q := ⟨_, rfl⟩
          have hdql : dq.length ≤ 20 := by rw [hdq]; exact nDigits_le q (by omega)
          rw [← hdq] at hst hDG3
          have eq : ByteArray.mk done.toArray ++ ByteArray.mk dq.toArray = ByteArray.mk (done ++ dq).toArray := str_app done dq
          have HST := Lib.hid hst
          have HD3 := Lib.hid hDG3
          have HEQ := Lib.hid eq
          clear hst hDG3 hq hp2 hdq hz hm hf eq hp
          go_wp2_with (go_at_call 66; refine (HD3.out _).mono ?_; rintro e w' ⟨rfl, rfl⟩)
          try simp only [r4]
          go_roundg (gk - 1)
          case measure => have := HST.out.1; omega
          case rel => have h := HST.out.2; rw [← HEQ.out] at h; exact h
end Go.Proofs.YtpodgmibghcjdaaGreatDoor
