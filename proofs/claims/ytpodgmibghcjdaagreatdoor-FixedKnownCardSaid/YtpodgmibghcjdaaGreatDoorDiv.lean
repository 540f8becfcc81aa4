/-
  math/bits.Div64, for every divisor that is above the upper word.
-/
import Derived.Test.YtpodgmibghcjdaaGreatDoorChecked
import Derived.Test.YtpodgmibghcjdaaGreatDoorDivSet
import Derived.Test.YtpodgmibghcjdaaGreatDoorShelf
import Derived.WalkKit
import Derived.Deep.QuietTactic
import Derived.BigQuiet
import Derived.WalkLawsBesides
import Derived.Outline
import Derived.IntWalk
import Derived.Deep.DeepCutAuto
import Derived.Deep.CutBlock
import Derived.Deep.LoopGhost
namespace Go.Proofs.YtpodgmibghcjdaaGreatDoor
open Go Go.RowKit

theorem div64_low (lo y : Nat) (h1 : 0 < y) (h2 : y < 18446744073709551616) (h3 : lo < 18446744073709551616) (w : World) :
    Calls Tryz.prog 85 #[.int .u64 0, .int .u64 lo, .int .u64 y] w fun e w' => e = .returned (.tuple #[.int .u64 ((lo / y : Nat) : Int), .int .u64 ((lo % y : Nat) : Int)]) ∧ ∃ d, w' = w.drewN d := by
  have hy : ((y : Int) == 0) = false := by simp; omega
  have hy2 : ¬ (y : Int) = 0 := by omega
  have hy3 : ¬ (y : Int) ≤ 0 := by omega
  go_enter Tryz.func85, Tryz.ntmps85
  go_wp2
  go_quiet (fail)
  go_wp2
  go_ret2
  have e1 : (lo : Int) / (y : Int) = ((lo / y : Nat) : Int) := rfl
  have h4 : lo / y ≤ lo := Nat.div_le_self _ _
  have e2 : IntKind.u64.wrap ((lo : Int) / (y : Int)) = ((lo / y : Nat) : Int) := by rw [e1, IntKind.wrap_u64]; generalize lo / y = q at *; omega
  exact ⟨by simp [e2], nq, rfl⟩

/-- at the head of each round of Div64's two loops -/
def Digit (n1 u T Q : Nat) (q r : Value) : Prop :=
  ∃ a b : Nat, q = .int .u64 (a : Int) ∧ r = .int .u64 (b : Int) ∧ a * n1 + b = u ∧ T ≤ a ∧ b < 4294967296 ∧ a ≤ Q
/-- behind it -/
def Digits (T : Nat) (w' : World) (q r : Value) (wx : World) : Prop :=
  q = .int .u64 (T : Int) ∧ w' = wx ∧ ∃ r', r = .int .u64 r'

theorem digit_step {n1 u T Q a b : Nat} (h : a * n1 + b = u) (hlt : T < a) (hb : b + n1 < 4294967296) (haQ : a ≤ Q) :
    Digit n1 u T Q (.int .u64 ((a : Int) - 1)) (.int .u64 ((b : Int) + n1)) := by
  obtain ⟨c, rfl⟩ : ∃ c, a = c + 1 := ⟨a - 1, by omega⟩
  refine ⟨c, b + n1, congrArg _ (by omega), congrArg _ (by omega), ?_, by omega, hb, by omega⟩
  rw [Nat.add_mul, Nat.one_mul] at h
  omega

theorem digit_stop {n1 n0 u u1 T a b : Nat} (w : World) (h : a * n1 + b = u) (hT : T = (u * 4294967296 + u1) / (n1 * 4294967296 + n0)) (h0 : n0 < 4294967296) (h1 : 0 < n1) (hu : u < n1 * 4294967296 + n0)
    (hlt : T < a) (hb : ¬ b + n1 < 4294967296) : Digits T w (.int .u64 ((a : Int) - 1)) (.int .u64 ((b : Int) + n1)) w := by
  obtain ⟨c, rfl⟩ : ∃ c, a = c + 1 := ⟨a - 1, by omega⟩
  rw [Nat.add_mul, Nat.one_mul] at h
  have hs := (Kn.stop_le n1 n0 u u1 c (b + n1) h1 (by omega) h0 hu (by omega)).2
  rw [← hT] at hs
  exact ⟨congrArg _ (by omega), rfl, _, rfl⟩

theorem digit_more {n1 n0 u u1 T a b : Nat} (h : a * n1 + b = u) (hT : T = (u * 4294967296 + u1) / (n1 * 4294967296 + n0)) (h1 : 0 < n1) : 4294967296 * b + u1 < a * n0 ↔ T < a := by
  rw [hT]; exact Kn.more_iff n1 n0 u u1 a b h1 h

theorem rest_of (u u1 T Y : Nat) (hT : T = (u * 4294967296 + u1) / Y) (hY : 0 < Y) (hYl : Y < 18446744073709551616) :
    IntKind.u64.wrap (IntKind.u64.wrap (IntKind.u64.wrap ((u : Int) * 4294967296) + u1) - IntKind.u64.wrap ((T : Int) * Y)) = (((u * 4294967296 + u1) % Y : Nat) : Int) := by
  have h := Nat.div_add_mod (u * 4294967296 + u1) Y
  have hl := Nat.mod_lt (u * 4294967296 + u1) hY
  rw [← hT, Nat.mul_comm] at h
  rw [← Int.natCast_mul]
  generalize (u * 4294967296 + u1) % Y = r at *
  generalize T * Y = z at *
  simp only [IntKind.wrap_u64]
  omega

theorem div_fin {X y s u u1 u0 Y T T2 R1 R2 : Nat} (hX : X * 2 ^ s = u * 18446744073709551616 + (u1 * 4294967296 + u0)) (hY : y * 2 ^ s = Y) (hp : 0 < Y)
    (hT : T = (u * 4294967296 + u1) / Y) (hR : R1 = (u * 4294967296 + u1) % Y) (hT2 : T2 = (R1 * 4294967296 + u0) / Y) (hR2 : R2 = (R1 * 4294967296 + u0) % Y) :
    (T : Int) * 4294967296 + T2 = ((X / y : Nat) : Int) ∧ (R2 : Int) / 2 ^ s = ((X % y : Nat) : Int) := by
  have h := Kn.shifted X y s
  have h2 := Kn.two Y u u1 u0 hp
  rw [hX, hY] at h
  rw [h.1, h.2, ← hR, ← hT, ← hT2, ← hR2] at h2
  refine ⟨by rw [h2.1]; omega, ?_⟩
  rw [← h2.2]
  have : ((X % y * 2 ^ s : Nat) : Int) / 2 ^ s = ((X % y * 2 ^ s / 2 ^ s : Nat) : Int) := by simp
  rw [this, Nat.mul_div_cancel _ (Nat.two_pow_pos s)]

set_option maxRecDepth 100000 in
set_option maxHeartbeats 2000000 in
theorem div64_high (hi lo y : Nat) (h0 : 0 < hi) (h1 : hi < y) (h2 : y < 18446744073709551616) (h3 : lo < 18446744073709551616) (w : World) :
    Calls Tryz.prog 85 #[.int .u64 hi, .int .u64 lo, .int .u64 y] w fun e w' => e = .returned (.tuple #[.int .u64 (((hi * 18446744073709551616 + lo) / y : Nat) : Int), .int .u64 (((hi * 18446744073709551616 + lo) % y : Nat) : Int)]) ∧ w' = w := by
  have hy : ((y : Int) == 0) = false := by simp; omega
  have hy2 : ¬ (y : Int) = 0 := by omega
  have hy3 : ¬ (y : Int) ≤ hi := by omega
  have hh : ((hi : Int) == 0) = false := by simp; omega
  obtain ⟨s, n1, n0, u, u1, u0, hs, e1, eY, b0, b1l, b1, eU, bH, bL, bU, eV, bu1, bu0, eX⟩ := Kn.setup hi lo y h1 h2 h3
  have E1 : IntKind.u64.wrap (64 - (Lib.bitLen y : Int)) = (s : Int) := by rw [e1]; exact Kn.wrap_of s (by omega)
  have hmin : min s 64 = s := by omega
  have hmin2 : min (64 - s) 64 = 64 - s := by omega
  obtain ⟨Y, hY⟩ : ∃ Y, Y = n1 * 4294967296 + n0 := ⟨_, rfl⟩
  obtain ⟨V, hV⟩ : ∃ V, V = u1 * 4294967296 + u0 := ⟨_, rfl⟩
  have E2 : IntKind.u64.wrap ((y : Int) * 2 ^ s) = (Y : Int) := by
    rw [show (y : Int) * 2 ^ s = ((y * 2 ^ s : Nat) : Int) by simp, eY, ← hY]; exact Kn.wrap_of _ (by omega)
  have E3 : (Y : Int) / 4294967296 = (n1 : Int) := by omega
  have E4 : bits BinOp.and IntKind.u64 (Y : Int) 4294967295 = (n0 : Int) := Kn.low_of Y n1 n0 hY b0 b1
  have E5 : bits BinOp.or IntKind.u64 (IntKind.u64.wrap ((hi : Int) * 2 ^ s)) ((lo : Int) / 2 ^ (64 - s)) = (u : Int) := by
    rw [show (hi : Int) * 2 ^ s = ((hi * 2 ^ s : Nat) : Int) by simp, Kn.wrap_of _ bH, show (lo : Int) / 2 ^ (64 - s) = ((lo / 2 ^ (64 - s) : Nat) : Int) by simp, eU]
    exact Kn.or_of hi _ s bH bL hs
  have E6 : IntKind.u64.wrap ((lo : Int) * 2 ^ s) = (V : Int) := by
    rw [show (lo : Int) * 2 ^ s = ((lo * 2 ^ s : Nat) : Int) by simp, IntKind.wrap_u64]
    rw [hV, ← eV]; simp
  have E7 : (V : Int) / 4294967296 = (u1 : Int) := by omega
  have E8 : bits BinOp.and IntKind.u64 (V : Int) 4294967295 = (u0 : Int) := Kn.low_of V u1 u0 hV bu0 bu1
  have hn1 : ¬ (n1 : Int) = 0 := by omega
  obtain ⟨Q, hQ⟩ : ∃ Q, Q = u / n1 := ⟨_, rfl⟩
  obtain ⟨R, hR⟩ : ∃ R, R = u % n1 := ⟨_, rfl⟩
  have hQR : Q * n1 + R = u := by rw [hQ, hR, Nat.mul_comm]; exact Nat.div_add_mod u n1
  have hRlt : R < n1 := by rw [hR]; exact Nat.mod_lt _ (by omega)
  have hQle : Q ≤ u := by rw [hQ]; exact Nat.div_le_self _ _
  have E9 : IntKind.u64.wrap ((u : Int) / n1) = (Q : Int) := by
    rw [← Int.natCast_ediv, ← hQ]; exact Kn.wrap_of _ (by omega)
  have E10 : IntKind.u64.wrap ((u : Int) - IntKind.u64.wrap ((Q : Int) * n1)) = (R : Int) := by
    rw [← Int.natCast_mul, Kn.wrap_of _ (by omega), show (u : Int) - ((Q * n1 : Nat) : Int) = (R : Int) by omega]; exact Kn.wrap_of _ (by omega)
  have HX : Hid ((hi * 18446744073709551616 + lo) * 2 ^ s = u * 18446744073709551616 + (u1 * 4294967296 + u0)) := Lib.hid eX
  have HY : Hid (Y = n1 * 4294967296 + n0) := Lib.hid hY
  have HyY : Hid (y * 2 ^ s = Y) := Lib.hid (by rw [eY, hY])
  have HQR : Hid (Q * n1 + R = u) := Lib.hid hQR
  have HQ : Hid (Q = u / n1) := Lib.hid hQ
  clear eX hY eY hQR hQ hR e1 eU eV hV
  go_enter Tryz.func85, Tryz.ntmps85
  go_upto_block 0 with (go_at_call 101; refine (Tryz.bits_LeadingZeros64 _ _ (by omega) (by omega)).mono ?_; rintro e w' ⟨rfl, rfl⟩)
  obtain ⟨T, hT⟩ : ∃ T, T = (u * 4294967296 + u1) / (n1 * 4294967296 + n0) := ⟨_, rfl⟩
  have hTQ : T ≤ Q := by rw [hT, HQ.out]; exact Kn.first_ge n1 n0 u u1 (by omega) bu1
  have HT : Hid (T = (u * 4294967296 + u1) / (n1 * 4294967296 + n0)) := Lib.hid hT
  clear hT
  go_cut [15, 16] (fun q r wx => Digits T w' q r wx)
  case first =>
    go_wp2_with fail
    go_loop [15, 16] (fun q r => Digit n1 u T Q q r) (fun q _ => (intOf q).toNat)
    case atStart => exact ⟨Q, R, rfl, rfl, HQR.out, hTQ, by omega, by omega⟩
    case round =>
      clear E1 E2 E3 E4 E5 E6 E7 E8 E9 E10 hy hy2 hy3 hh hmin hmin2
      obtain ⟨a, b, rfl, rfl, hab, hTa, hb, haQ⟩ := hrel
      have HAB : Hid (a * n1 + b = u) := Lib.hid hab
      clear hab
      obtain ⟨A, hA⟩ : ∃ A, A = a * n0 := ⟨_, rfl⟩
      have HA : Hid (A = a * n0) := Lib.hid hA
      by_cases hbig : 4294967296 ≤ a
      · have hlt : T < a := by rw [HT.out]; exact Kn.great_lt (n1 * 4294967296 + n0) u u1 a bU bu1 hbig
        have hbigI : (4294967296 : Int) ≤ a := by omega
        have ha1 : (1 : Int) ≤ a := by omega
        clear hbig hA
        by_cases hr : b + n1 < 4294967296
        · have hr' : ¬ (4294967296 : Int) ≤ b + n1 := by omega
          go_wp2_with fail
          exact ⟨digit_step HAB.out hlt hr haQ, by simp [intOf]; omega⟩
        · have hr' : (4294967296 : Int) ≤ b + n1 := by omega
          go_wp2_with fail
          go_meet
          exact digit_stop w' HAB.out HT.out b0 (by omega) bU hlt hr
      · have hbigI : ¬ (4294967296 : Int) ≤ a := by omega
        have hAlt : A < 18446744073709551616 := by
          rw [hA]
          have := Nat.mul_lt_mul'' (show a < 4294967296 by omega) b0
          simpa using this
        have F1 : IntKind.u64.wrap ((a : Int) * n0) = (A : Int) := by rw [← Int.natCast_mul, ← hA]; exact Kn.wrap_of _ hAlt
        have hmore : 4294967296 * b + u1 < A ↔ T < a := by rw [hA]; exact digit_more HAB.out HT.out (by omega)
        clear hbig hA hAlt
        by_cases hm : 4294967296 * b + u1 < A
        · have hlt := hmore.1 hm
          have hm' : (4294967296 : Int) * b + u1 < A := by omega
          have ha1 : (1 : Int) ≤ a := by omega
          clear hm hmore
          by_cases hr : b + n1 < 4294967296
          · have hr' : ¬ (4294967296 : Int) ≤ b + n1 := by omega
            go_wp2_with fail
            exact ⟨digit_step HAB.out hlt hr haQ, by simp [intOf]; omega⟩
          · have hr' : (4294967296 : Int) ≤ b + n1 := by omega
            go_wp2_with fail
            go_meet
            exact digit_stop w' HAB.out HT.out b0 (by omega) bU hlt hr
        · have hm' : ¬ (4294967296 : Int) * b + u1 < A := by omega
          have haT : a = T := by
            have : ¬ T < a := fun h => hm (hmore.2 h)
            omega
          have HAT : Hid (a = T) := Lib.hid haT
          clear hm hmore haT
          go_wp2_with fail
          go_meet
          exact ⟨congrArg _ (by rw [HAT.out]), rfl, _, rfl⟩
  case rest =>
    obtain ⟨rfl, rfl, r', rfl⟩ := hcut
    clear E1 E2 E3 E4 E5 E6 E7 E8 E9 E10
    have hYp : 0 < Y := by rw [HY.out]; omega
    have hYl : Y < 18446744073709551616 := by rw [HY.out]; omega
    have HTY : Hid (T = (u * 4294967296 + u1) / Y) := Lib.hid (by rw [HT.out, HY.out])
    obtain ⟨R1, hR1⟩ : ∃ R1, R1 = (u * 4294967296 + u1) % Y := ⟨_, rfl⟩
    have bR1Y : R1 < Y := by rw [hR1]; exact Nat.mod_lt _ hYp
    have bR1 : R1 < n1 * 4294967296 + n0 := by rw [← HY.out]; exact bR1Y
    have E11 : IntKind.u64.wrap (IntKind.u64.wrap (IntKind.u64.wrap ((u : Int) * 4294967296) + u1) - IntKind.u64.wrap ((T : Int) * Y)) = (R1 : Int) := by
      rw [hR1]; exact rest_of u u1 T Y HTY.out hYp hYl
    have HR1 : Hid (R1 = (u * 4294967296 + u1) % Y) := Lib.hid hR1
    clear hR1
    obtain ⟨Q2, hQ2⟩ : ∃ Q, Q = R1 / n1 := ⟨_, rfl⟩
    obtain ⟨S2, hS2⟩ : ∃ R, R = R1 % n1 := ⟨_, rfl⟩
    have hQR2 : Q2 * n1 + S2 = R1 := by rw [hQ2, hS2, Nat.mul_comm]; exact Nat.div_add_mod R1 n1
    have hSlt : S2 < n1 := by rw [hS2]; exact Nat.mod_lt _ (by omega)
    have hQ2le : Q2 ≤ R1 := by rw [hQ2]; exact Nat.div_le_self _ _
    have E12 : IntKind.u64.wrap ((R1 : Int) / n1) = (Q2 : Int) := by
      rw [← Int.natCast_ediv, ← hQ2]; exact Kn.wrap_of _ (by omega)
    have E13 : IntKind.u64.wrap ((R1 : Int) - IntKind.u64.wrap ((Q2 : Int) * n1)) = (S2 : Int) := by
      rw [← Int.natCast_mul, Kn.wrap_of _ (by omega), show (R1 : Int) - ((Q2 * n1 : Nat) : Int) = (S2 : Int) by omega]; exact Kn.wrap_of _ (by omega)
    obtain ⟨T2, hT2⟩ : ∃ T, T = (R1 * 4294967296 + u0) / (n1 * 4294967296 + n0) := ⟨_, rfl⟩
    have hTQ2 : T2 ≤ Q2 := by rw [hT2, hQ2]; exact Kn.first_ge n1 n0 R1 u0 (by omega) bu0
    have HT2 : Hid (T2 = (R1 * 4294967296 + u0) / (n1 * 4294967296 + n0)) := Lib.hid hT2
    have HQR2 : Hid (Q2 * n1 + S2 = R1) := Lib.hid hQR2
    clear hT2 hQR2 hQ2 hS2
    go_upto_block 2 with fail
    go_cut [18, 16] (fun q r wx => Digits T2 w' q r wx)
    case first =>
      go_wp2_with fail
      go_loop [18, 16] (fun q r => Digit n1 R1 T2 Q2 q r) (fun q _ => (intOf q).toNat)
      case atStart => exact ⟨Q2, S2, rfl, rfl, HQR2.out, hTQ2, by omega, by omega⟩
      case round =>
        clear E11 E12 E13 hy hy2 hy3 hh hmin hmin2
        obtain ⟨a, b, rfl, rfl, hab, hTa, hb, haQ⟩ := hrel
        have HAB : Hid (a * n1 + b = R1) := Lib.hid hab
        clear hab
        obtain ⟨A, hA⟩ : ∃ A, A = a * n0 := ⟨_, rfl⟩
        have HA : Hid (A = a * n0) := Lib.hid hA
        by_cases hbig : 4294967296 ≤ a
        · have hlt : T2 < a := by rw [HT2.out]; exact Kn.great_lt (n1 * 4294967296 + n0) R1 u0 a bR1 bu0 hbig
          have hbigI : (4294967296 : Int) ≤ a := by omega
          have ha1 : (1 : Int) ≤ a := by omega
          clear hbig hA
          by_cases hr : b + n1 < 4294967296
          · have hr' : ¬ (4294967296 : Int) ≤ b + n1 := by omega
            go_wp2_with fail
            exact ⟨digit_step HAB.out hlt hr haQ, by simp [intOf]; omega⟩
          · have hr' : (4294967296 : Int) ≤ b + n1 := by omega
            go_wp2_with fail
            go_meet
            exact digit_stop w' HAB.out HT2.out b0 (by omega) bR1 hlt hr
        · have hbigI : ¬ (4294967296 : Int) ≤ a := by omega
          have hAlt : A < 18446744073709551616 := by
            rw [hA]
            have := Nat.mul_lt_mul'' (show a < 4294967296 by omega) b0
            simpa using this
          have F1 : IntKind.u64.wrap ((a : Int) * n0) = (A : Int) := by rw [← Int.natCast_mul, ← hA]; exact Kn.wrap_of _ hAlt
          have hmore : 4294967296 * b + u0 < A ↔ T2 < a := by rw [hA]; exact digit_more HAB.out HT2.out (by omega)
          clear hbig hA hAlt
          by_cases hm : 4294967296 * b + u0 < A
          · have hlt := hmore.1 hm
            have hm' : (4294967296 : Int) * b + u0 < A := by omega
            have ha1 : (1 : Int) ≤ a := by omega
            clear hm hmore
            by_cases hr : b + n1 < 4294967296
            · have hr' : ¬ (4294967296 : Int) ≤ b + n1 := by omega
              go_wp2_with fail
              exact ⟨digit_step HAB.out hlt hr haQ, by simp [intOf]; omega⟩
            · have hr' : (4294967296 : Int) ≤ b + n1 := by omega
              go_wp2_with fail
              go_meet
              exact digit_stop w' HAB.out HT2.out b0 (by omega) bR1 hlt hr
          · have hm' : ¬ (4294967296 : Int) * b + u0 < A := by omega
            have haT : a = T2 := by
              have : ¬ T2 < a := fun h => hm (hmore.2 h)
              omega
            have HAT : Hid (a = T2) := Lib.hid haT
            clear hm hmore haT
            go_wp2_with fail
            go_meet
            exact ⟨congrArg _ (by rw [HAT.out]), rfl, _, rfl⟩
    case rest =>
      obtain ⟨rfl, rfl, r'', rfl⟩ := hcut
      clear E11 E12 E13
      have HTY2 : Hid (T2 = (R1 * 4294967296 + u0) / Y) := Lib.hid (by rw [HT2.out, HY.out])
      obtain ⟨R2, hR2⟩ : ∃ R2, R2 = (R1 * 4294967296 + u0) % Y := ⟨_, rfl⟩
      have E14 : IntKind.u64.wrap (IntKind.u64.wrap (IntKind.u64.wrap ((R1 : Int) * 4294967296) + u0) - IntKind.u64.wrap ((T2 : Int) * Y)) = (R2 : Int) := by
        rw [hR2]; exact rest_of R1 u0 T2 Y HTY2.out hYp hYl
      have HR2 : Hid (R2 = (R1 * 4294967296 + u0) % Y) := Lib.hid hR2
      have hTl : T < 4294967296 := by rw [HT.out]; exact Kn.qt_lt _ u u1 bU bu1
      have hT2l : T2 < 4294967296 := by rw [HT2.out]; exact Kn.qt_lt _ R1 u0 bR1 bu0
      clear hR2
      go_wp2_with fail
      go_ret2
      have hf := div_fin HX.out HyY.out hYp HTY.out HR1.out HTY2.out HR2.out
      exact ⟨by rw [← hf.1, ← hf.2]; rfl, rfl⟩

/-- math/bits.Div64 at a divisor above the upper word: the quotient and the rest. -/
theorem div64_any (hi lo y : Nat) (h1 : hi < y) (h2 : y < 18446744073709551616) (h3 : lo < 18446744073709551616) (w : World) :
    Calls Tryz.prog 85 #[.int .u64 hi, .int .u64 lo, .int .u64 y] w fun e w' => e = .returned (.tuple #[.int .u64 (((hi * 18446744073709551616 + lo) / y : Nat) : Int), .int .u64 (((hi * 18446744073709551616 + lo) % y : Nat) : Int)]) ∧ ∃ d, w' = w.drewN d := by
  rcases Nat.eq_zero_or_pos hi with rfl | h0
  · refine (div64_low lo y h1 h2 h3 w).mono ?_
    rintro e w' ⟨rfl, hd⟩
    exact ⟨by simp, hd⟩
  · refine (div64_high hi lo y h0 h1 h2 h3 w).mono ?_
    rintro e w' ⟨rfl, rfl⟩
    exact ⟨rfl, 0, rfl⟩
end Go.Proofs.YtpodgmibghcjdaaGreatDoor
