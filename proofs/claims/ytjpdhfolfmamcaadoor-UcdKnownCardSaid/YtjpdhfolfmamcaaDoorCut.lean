/-
  The document's Cut.
-/
import Derived.Test.YtjpdhfolfmamcaaDoorUtf
import Derived.Test.YtjpdhfolfmamcaaDoorProg
import Derived.WalkKit
import Derived.WalkLawsBesides
import Derived.WalkSpells
import Derived.Deep.LoopGhost
import Derived.Deep.RegionHeld3
import Derived.Below
import Derived.Outline
import Derived.Lib.Hide
namespace Go.Proofs.YtjpdhfolfmamcaaDoor
open Go Go.RowKit

/-- a slice that reads as these bytes -/
structure BytesAt (w : World) (g off : Nat) (s : ByteArray) : Prop where
  cell : ∀ j, j < s.size → w.cell? ⟨g, off + j, none⟩ = some (.int .u8 (byN s j : Nat))

/-- at the head of each round of Cut -/
def CutRel (w : World) (s : ByteArray) (r0 n k : Nat) (vr vi : Value) (wr : World) : Prop :=
  ∃ i, i + k = n ∧ 1 ≤ i ∧ vi = .int .i64 ((i : Nat) : Int) ∧ vr = .int .i32 ((partN s r0 (i - 1) : Nat) : Int) ∧ (∀ j, 1 ≤ j → j < i → goesOn s j) ∧ Below w.heap.size w wr

theorem i32_or_nat (a b : Nat) (ha : a * 64 < 2147483648) (hb : b < 64) : bits .or .i32 ((a : Int) * 64) (b : Int) = ((a * 64 + b : Nat) : Int) := by
  have e : a * 64 ||| b = a * 64 + b := by
    have := Nat.two_pow_add_eq_or_of_lt (i := 6) (b := b) (by omega) a
    rw [Nat.mul_comm]
    exact this.symm
  have h1 : (BitVec.ofInt 32 ((a * 64 : Nat) : Int)).toNat = a * 64 := by rw [BitVec.ofInt_natCast, BitVec.toNat_ofNat]; exact Nat.mod_eq_of_lt (by omega)
  have h2 : (BitVec.ofInt 32 (b : Int)).toNat = b := by rw [BitVec.ofInt_natCast, BitVec.toNat_ofNat]; exact Nat.mod_eq_of_lt (by omega)
  have h3 : (a : Int) * 64 = ((a * 64 : Nat) : Int) := by omega
  rw [h3]
  show IntKind.i32.wrap ((BitVec.ofInt 32 ((a * 64 : Nat) : Int) ||| BitVec.ofInt 32 (b : Int)).toNat : Int) = _
  rw [BitVec.toNat_or, h1, h2, e, IntKind.wrap_i32]
  omega

theorem and31 (c : Nat) (h : c < 256) : bits .and .u8 (c : Int) 31 = ((c % 32 : Nat) : Int) := by
  have e := u8_and_nat c 31 h (by omega)
  rw [show ((31 : Nat) : Int) = 31 from rfl] at e
  rw [e, show c &&& 31 = c % 32 from Nat.and_two_pow_sub_one_eq_mod c 5]
theorem and15 (c : Nat) (h : c < 256) : bits .and .u8 (c : Int) 15 = ((c % 16 : Nat) : Int) := by
  have e := u8_and_nat c 15 h (by omega)
  rw [show ((15 : Nat) : Int) = 15 from rfl] at e
  rw [e, show c &&& 15 = c % 16 from Nat.and_two_pow_sub_one_eq_mod c 4]
theorem and7 (c : Nat) (h : c < 256) : bits .and .u8 (c : Int) 7 = ((c % 8 : Nat) : Int) := by
  have e := u8_and_nat c 7 h (by omega)
  rw [show ((7 : Nat) : Int) = 7 from rfl] at e
  rw [e, show c &&& 7 = c % 8 from Nat.and_two_pow_sub_one_eq_mod c 3]
theorem and63 (c : Nat) (h : c < 256) : bits .and .u8 (c : Int) 63 = ((c % 64 : Nat) : Int) := by
  have e := u8_and_nat c 63 h (by omega)
  rw [show ((63 : Nat) : Int) = 63 from rfl] at e
  rw [e, show c &&& 63 = c % 64 from Nat.and_two_pow_sub_one_eq_mod c 6]

set_option maxHeartbeats 4000000 in
set_option maxRecDepth 200000 in
theorem refCut_any (s : ByteArray) (g off cap : Nat) (w : World) (h0 : 0 < s.size) (hsz : s.size ≤ 140737488351232) (hb : BytesAt w g off s) :
    Calls Tryd.prog 19 #[.slice (some ⟨g, off, none⟩) s.size cap] w fun e w' => e = .returned (.tuple #[.int .i32 ((cutG s).1 : Nat), .int .i64 ((cutG s).2 : Nat)]) ∧ Below w.heap.size w w' := by
  obtain ⟨N, hN⟩ : ∃ N, N = s.size := ⟨_, rfl⟩
  obtain ⟨c, hc⟩ : ∃ c, c = byN s 0 := ⟨_, rfl⟩
  have hc256 : c < 256 := by rw [hc]; exact byN_lt s 0
  have hcell := hb.cell 0 h0
  rw [← hc, Nat.add_zero] at hcell
  have HN := Lib.hid hN
  have HC := Lib.hid hc
  have HB := Lib.hid hb
  rw [← hN] at h0 hsz ⊢
  obtain ⟨R, hR⟩ : ∃ R, R = cutG s := ⟨_, rfl⟩
  have HR := Lib.hid hR
  rw [← hR]
  have h0I : (0 : Int) < (N : Int) := by omega
  have hNI : (N : Int) ≤ 140737488351232 := by omega
  clear hN hb hR hc
  have qc : IntKind.i32.wrap (c : Int) = (c : Int) := by rw [IntKind.wrap_i32]; omega
  have hgl : g < w.heap.size := World.block_lt_of_cell? w _ hcell
  have q31 := and31 c hc256
  have q15 := and15 c hc256
  have q7 := and7 c hc256
  rcases (show c < 128 ∨ (128 ≤ c ∧ c < 192 ∨ 248 ≤ c) ∨ (192 ≤ c ∧ c < 224) ∨ (224 ≤ c ∧ c < 240) ∨ (240 ≤ c ∧ c < 248) by omega) with hk | hk | hk | hk | hk
  · have HF := Lib.hid (cutG_one s (by rw [← HC.out]; exact hk))
    have hkI : (c : Int) < 128 := by omega
    clear hk q31 q15 q7
    go_enter Tryd.func19, Tryd.ntmps19
    go_wp2_with fail
    go_region_held3 (fun w' => w'.cell? ⟨g, off, none⟩ = some (.int .u8 (c : Int))) (go_keep) (fail)
    all_goals go_wp2_with fail
    go_ret2
    refine ⟨?_, (Below.refl _ w).drew⟩
    rw [HR.out, HF.out, ← HC.out]
    rfl
  · have HF := Lib.hid (cutG_none s (by rw [← HC.out]; exact hk))
    rcases hk with ⟨hk1, hk2⟩ | hk1
    · have hkI : (128 : Int) ≤ (c : Int) := by omega
      have hkJ : (c : Int) < 192 := by omega
      clear hk1 hk2 q31 q15 q7
      go_enter Tryd.func19, Tryd.ntmps19
      go_wp2_with fail
      go_region_held3 (fun w' => w'.cell? ⟨g, off, none⟩ = some (.int .u8 (c : Int))) (go_keep) (fail)
      all_goals go_wp2_with fail
      go_ret2
      refine ⟨?_, (Below.refl _ w).drew⟩
      rw [HR.out, HF.out]
      rfl
    · have hkI : (248 : Int) ≤ (c : Int) := by omega
      clear hk1 q31 q15 q7
      go_enter Tryd.func19, Tryd.ntmps19
      go_wp2_with fail
      go_region_held3 (fun w' => w'.cell? ⟨g, off, none⟩ = some (.int .u8 (c : Int))) (go_keep) (fail)
      all_goals go_wp2_with fail
      go_ret2
      refine ⟨?_, (Below.refl _ w).drew⟩
      rw [HR.out, HF.out]
      rfl
  · obtain ⟨r0, hr0⟩ : ∃ r0, r0 = c % 32 := ⟨_, rfl⟩
    rw [← hr0] at q31
    have hr0l : r0 < 32 := by omega
    have HR0 := Lib.hid hr0
    have HK := Lib.hid hk
    have hkI : (192 : Int) ≤ (c : Int) := by omega
    have hkJ : (c : Int) < 224 := by omega
    have q0 : IntKind.i32.wrap (r0 : Int) = (r0 : Int) := by rw [IntKind.wrap_i32]; omega
    have hr0I : (r0 : Int) < 32 := by omega
    clear hk q15 q7 hr0
    go_enter Tryd.func19, Tryd.ntmps19
    go_wp2_with fail
    go_region_held3 (fun w' => w'.cell? ⟨g, off, none⟩ = some (.int .u8 (c : Int))) (go_keep) (fail)
    all_goals go_wp2_with fail
    go_region_held3 (fun w' => w'.cell? ⟨g, off, none⟩ = some (.int .u8 (c : Int))) (go_keep) (fail)
    all_goals go_wp2_with fail
    go_loopg [6, 7] 1 (fun k vr vi wr => CutRel w s r0 2 k vr vi wr)
    case atStart => exact ⟨1, by omega, by omega, rfl, rfl, fun j h1 h2 => by omega, ((Below.refl _ w).drew).drew⟩
    case round =>
      obtain ⟨i, hik, hi1, rfl, rfl, hon, hbw⟩ := hrel
      have HON := Lib.hid hon
      have HBW := Lib.hid hbw
      obtain ⟨p, hp⟩ : ∃ p, p = partN s r0 (i - 1) := ⟨_, rfl⟩
      have hpl : p < 32 * 64 ^ (i - 1) := by rw [hp]; exact partN_lt s r0 (by omega) (i - 1)
      have HP := Lib.hid hp
      rw [← hp]
      clear hon hbw hp
      rcases Nat.eq_zero_or_pos gk with h0k | h0k
      · obtain rfl := h0k
        obtain rfl : i = 2 := by omega
        have hpl2 : p < 8388608 := by
          have : 32 * 64 ^ (2 - 1) ≤ 8388608 := by decide
          omega
        have hpI : (p : Int) < 8388608 := by omega
        have HF : Hid (R = judged 128 p 2) := Lib.hid (by
          rw [HR.out, cutG_two s (by rw [← HC.out]; exact HK.out) HON.out, HP.out, HR0.out, HC.out])
        clear hpl hpl2
        rcases (show p < 128 ∨ (128 ≤ p ∧ 1114111 < p) ∨ (128 ≤ p ∧ 55296 ≤ p ∧ p ≤ 57343) ∨ (128 ≤ p ∧ p ≤ 1114111 ∧ p < 55296) ∨ (128 ≤ p ∧ p ≤ 1114111 ∧ 57343 < p) by omega) with hj | ⟨hj0, hj⟩ | ⟨hj0, hj, hj2⟩ | ⟨hj0, hj1, hj⟩ | ⟨hj0, hj1, hj⟩
        · have hjI : (p : Int) < 128 := by omega
          have HE : Hid (R = (0, 0)) := Lib.hid (by rw [HF.out]; unfold judged; rw [if_pos (by omega)])
          clear hj
          go_wp2_with fail
          go_ret2
          exact ⟨by rw [HE.out]; rfl, HBW.out⟩
        · have hjI : (1114111 : Int) < p := by omega
          have hjJ : (128 : Int) ≤ p := by omega
          have HE : Hid (R = (0, 0)) := Lib.hid (by rw [HF.out]; unfold judged; rw [if_pos (by omega)])
          clear hj hj0
          go_wp2_with fail
          go_ret2
          exact ⟨by rw [HE.out]; rfl, HBW.out⟩
        · have hjI : (55296 : Int) ≤ p := by omega
          have hjJ : (p : Int) ≤ 57343 := by omega
          have hjK : (128 : Int) ≤ p := by omega
          have b1 : ((p : Int) < 128) = False := by simp; omega
          have b2 : ((1114111 : Int) < p) = False := by simp; omega
          have b3 : ((55296 : Int) ≤ p) = True := by simp; omega
          have b4 : ((p : Int) ≤ 57343) = True := by simp; omega
          have HE : Hid (R = (0, 0)) := Lib.hid (by rw [HF.out]; unfold judged; rw [if_pos (by omega)])
          clear hj hj0 hj2
          go_wp2_with fail
          go_ret2
          exact ⟨by rw [HE.out]; rfl, HBW.out⟩
        · have hjI : (p : Int) < 55296 := by omega
          have hjK : (128 : Int) ≤ p := by omega
          have b1 : ((p : Int) < 128) = False := by simp; omega
          have b2 : ((1114111 : Int) < p) = False := by simp; omega
          have b3 : ((55296 : Int) ≤ p) = False := by simp; omega
          have HE : Hid (R = (p, 2)) := Lib.hid (by rw [HF.out]; unfold judged; rw [if_neg (by omega)])
          clear hj hj0 hj1
          go_wp2_with fail
          go_ret2
          exact ⟨by rw [HE.out]; rfl, HBW.out⟩
        · have hjI : (57343 : Int) < p := by omega
          have hjJ : (p : Int) ≤ 1114111 := by omega
          have hjK : (128 : Int) ≤ p := by omega
          have b1 : ((p : Int) < 128) = False := by simp; omega
          have b2 : ((1114111 : Int) < p) = False := by simp; omega
          have b3 : ((55296 : Int) ≤ p) = True := by simp; omega
          have b4 : ((p : Int) ≤ 57343) = False := by simp; omega
          have HE : Hid (R = (p, 2)) := Lib.hid (by rw [HF.out]; unfold judged; rw [if_neg (by omega)])
          clear hj hj0 hj1
          go_wp2_with fail
          go_ret2
          exact ⟨by rw [HE.out]; rfl, HBW.out⟩
      · have hin : i < 2 := by omega
        have hiI : (i : Int) < 2 := by omega
        have hi1I : (1 : Int) ≤ (i : Int) := by omega
        have hpl2 : p < 131072 := by
          have : 64 ^ (i - 1) ≤ 64 ^ 2 := Nat.pow_le_pow_right (by omega) (by omega)
          omega
        have hpI : (p : Int) < 131072 := by omega
        have HBAD : Hid (¬ goesOn s i → R = (0, 0)) := Lib.hid (fun h => by
          rw [HR.out, cutG_stop s 2 i hi1 hin (by rw [← HC.out]; have := HK.out; omega) h])
        clear hpl
        by_cases hiN : i < N
        · have hiNI : (i : Int) < (N : Int) := by omega
          obtain ⟨x, hx⟩ : ∃ x, x = byN s i := ⟨_, rfl⟩
          have hx256 : x < 256 := by rw [hx]; exact byN_lt s i
          have hcx : wr.cell? ⟨g, off + i, none⟩ = some (.int .u8 (x : Int)) := by
            rw [HBW.out.cell (show g < _ from hgl), hx]; exact HB.out.cell i (by have := HN.out; omega)
          have HX := Lib.hid hx
          have hxI : (x : Int) ≤ 255 := by omega
          clear hx
          rcases (show x < 128 ∨ 191 < x ∨ (128 ≤ x ∧ x ≤ 191) by omega) with hj | hj | ⟨hj, hj2⟩
          · have hjI : (x : Int) < 128 := by omega
            have HE : Hid (R = (0, 0)) := Lib.hid (HBAD.out (by rintro ⟨_, h2⟩; rw [← HX.out] at h2; omega))
            clear hj
            go_wp2_with fail
            go_ret2
            exact ⟨by rw [HE.out]; rfl, HBW.out⟩
          · have hjI : (191 : Int) < x := by omega
            have b1 : ((x : Int) < 128) = False := by simp; omega
            have b2 : ((191 : Int) < x) = True := by simp; omega
            have HE : Hid (R = (0, 0)) := Lib.hid (HBAD.out (by rintro ⟨_, h2⟩; rw [← HX.out] at h2; omega))
            clear hj
            go_wp2_with fail
            go_ret2
            exact ⟨by rw [HE.out]; rfl, HBW.out⟩
          · have hjI : (128 : Int) ≤ x := by omega
            have hjJ : (x : Int) ≤ 191 := by omega
            have hp0 : (0 : Int) ≤ (p : Int) := by omega
            have hx0 : (0 : Int) ≤ (x : Int) := by omega
            have b3 : ((N : Int) ≤ (i : Int)) = False := by simp; omega
            have hi0 : (0 : Int) ≤ (i : Int) := by omega
            have b1 : ((x : Int) < 128) = False := by simp; omega
            have b2 : ((191 : Int) < x) = False := by simp; omega
            have HG : Hid (goesOn s i) := Lib.hid ⟨by have := HN.out; omega, by rw [← HX.out]; omega⟩
            obtain ⟨y, hy⟩ : ∃ y, y = x % 64 := ⟨_, rfl⟩
            obtain ⟨t, ht⟩ : ∃ t, t = p * 64 + y := ⟨_, rfl⟩
            have q1 : bits BinOp.and IntKind.u8 (x : Int) 63 = (y : Int) := by rw [hy]; exact and63 x hx256
            have q2 : IntKind.i32.wrap (y : Int) = (y : Int) := by rw [IntKind.wrap_i32]; omega
            have q3 : IntKind.i32.wrap ((p : Int) * 64) = (p : Int) * 64 := by rw [IntKind.wrap_i32]; omega
            have q4 : bits BinOp.or IntKind.i32 ((p : Int) * 64) (y : Int) = (t : Int) := by rw [ht]; exact i32_or_nat p y (by omega) (by omega)
            have hyI : (y : Int) < 64 := by omega
            have HT : Hid (t = partN s r0 i) := Lib.hid (by
              have e : i = (i - 1) + 1 := by omega
              rw [e, partN, ← HP.out, ← e, ← HX.out, ← hy, ht])
            clear hj hj2 hy ht hx256 hpl2
            go_wp2_with fail
            go_roundg (gk - 1)
            case measure => omega
            case rel =>
              refine ⟨i + 1, by omega, by omega, by first | rfl | exact congrArg _ (by omega), by rw [HT.out]; rfl, ?_, HBW.out⟩
              intro j h1 h2
              by_cases hji : j = i
              · rw [hji]; exact HG.out
              · exact HON.out j h1 (by omega)
        · have hiNI : (N : Int) ≤ (i : Int) := by omega
          have HE : Hid (R = (0, 0)) := Lib.hid (HBAD.out (by rintro ⟨h2, _⟩; have := HN.out; omega))
          clear hiN
          go_wp2_with fail
          go_ret2
          exact ⟨by rw [HE.out]; rfl, HBW.out⟩
  · obtain ⟨r0, hr0⟩ : ∃ r0, r0 = c % 16 := ⟨_, rfl⟩
    rw [← hr0] at q15
    have hr0l : r0 < 16 := by omega
    have HR0 := Lib.hid hr0
    have HK := Lib.hid hk
    have hkI : (224 : Int) ≤ (c : Int) := by omega
    have hkJ : (c : Int) < 240 := by omega
    have q0 : IntKind.i32.wrap (r0 : Int) = (r0 : Int) := by rw [IntKind.wrap_i32]; omega
    have hr0I : (r0 : Int) < 16 := by omega
    clear hk q31 q7 hr0
    go_enter Tryd.func19, Tryd.ntmps19
    go_wp2_with fail
    go_region_held3 (fun w' => w'.cell? ⟨g, off, none⟩ = some (.int .u8 (c : Int))) (go_keep) (fail)
    all_goals go_wp2_with fail
    go_region_held3 (fun w' => w'.cell? ⟨g, off, none⟩ = some (.int .u8 (c : Int))) (go_keep) (fail)
    all_goals go_wp2_with fail
    go_loopg [6, 7] 2 (fun k vr vi wr => CutRel w s r0 3 k vr vi wr)
    case atStart => exact ⟨1, by omega, by omega, rfl, rfl, fun j h1 h2 => by omega, ((Below.refl _ w).drew).drew⟩
    case round =>
      obtain ⟨i, hik, hi1, rfl, rfl, hon, hbw⟩ := hrel
      have HON := Lib.hid hon
      have HBW := Lib.hid hbw
      obtain ⟨p, hp⟩ : ∃ p, p = partN s r0 (i - 1) := ⟨_, rfl⟩
      have hpl : p < 32 * 64 ^ (i - 1) := by rw [hp]; exact partN_lt s r0 (by omega) (i - 1)
      have HP := Lib.hid hp
      rw [← hp]
      clear hon hbw hp
      rcases Nat.eq_zero_or_pos gk with h0k | h0k
      · obtain rfl := h0k
        obtain rfl : i = 3 := by omega
        have hpl2 : p < 8388608 := by
          have : 32 * 64 ^ (3 - 1) ≤ 8388608 := by decide
          omega
        have hpI : (p : Int) < 8388608 := by omega
        have HF : Hid (R = judged 2048 p 3) := Lib.hid (by
          rw [HR.out, cutG_three s (by rw [← HC.out]; exact HK.out) HON.out, HP.out, HR0.out, HC.out])
        clear hpl hpl2
        rcases (show p < 2048 ∨ (2048 ≤ p ∧ 1114111 < p) ∨ (2048 ≤ p ∧ 55296 ≤ p ∧ p ≤ 57343) ∨ (2048 ≤ p ∧ p ≤ 1114111 ∧ p < 55296) ∨ (2048 ≤ p ∧ p ≤ 1114111 ∧ 57343 < p) by omega) with hj | ⟨hj0, hj⟩ | ⟨hj0, hj, hj2⟩ | ⟨hj0, hj1, hj⟩ | ⟨hj0, hj1, hj⟩
        · have hjI : (p : Int) < 2048 := by omega
          have HE : Hid (R = (0, 0)) := Lib.hid (by rw [HF.out]; unfold judged; rw [if_pos (by omega)])
          clear hj
          go_wp2_with fail
          go_ret2
          exact ⟨by rw [HE.out]; rfl, HBW.out⟩
        · have hjI : (1114111 : Int) < p := by omega
          have hjJ : (2048 : Int) ≤ p := by omega
          have HE : Hid (R = (0, 0)) := Lib.hid (by rw [HF.out]; unfold judged; rw [if_pos (by omega)])
          clear hj hj0
          go_wp2_with fail
          go_ret2
          exact ⟨by rw [HE.out]; rfl, HBW.out⟩
        · have hjI : (55296 : Int) ≤ p := by omega
          have hjJ : (p : Int) ≤ 57343 := by omega
          have hjK : (2048 : Int) ≤ p := by omega
          have b1 : ((p : Int) < 2048) = False := by simp; omega
          have b2 : ((1114111 : Int) < p) = False := by simp; omega
          have b3 : ((55296 : Int) ≤ p) = True := by simp; omega
          have b4 : ((p : Int) ≤ 57343) = True := by simp; omega
          have HE : Hid (R = (0, 0)) := Lib.hid (by rw [HF.out]; unfold judged; rw [if_pos (by omega)])
          clear hj hj0 hj2
          go_wp2_with fail
          go_ret2
          exact ⟨by rw [HE.out]; rfl, HBW.out⟩
        · have hjI : (p : Int) < 55296 := by omega
          have hjK : (2048 : Int) ≤ p := by omega
          have b1 : ((p : Int) < 2048) = False := by simp; omega
          have b2 : ((1114111 : Int) < p) = False := by simp; omega
          have b3 : ((55296 : Int) ≤ p) = False := by simp; omega
          have HE : Hid (R = (p, 3)) := Lib.hid (by rw [HF.out]; unfold judged; rw [if_neg (by omega)])
          clear hj hj0 hj1
          go_wp2_with fail
          go_ret2
          exact ⟨by rw [HE.out]; rfl, HBW.out⟩
        · have hjI : (57343 : Int) < p := by omega
          have hjJ : (p : Int) ≤ 1114111 := by omega
          have hjK : (2048 : Int) ≤ p := by omega
          have b1 : ((p : Int) < 2048) = False := by simp; omega
          have b2 : ((1114111 : Int) < p) = False := by simp; omega
          have b3 : ((55296 : Int) ≤ p) = True := by simp; omega
          have b4 : ((p : Int) ≤ 57343) = False := by simp; omega
          have HE : Hid (R = (p, 3)) := Lib.hid (by rw [HF.out]; unfold judged; rw [if_neg (by omega)])
          clear hj hj0 hj1
          go_wp2_with fail
          go_ret2
          exact ⟨by rw [HE.out]; rfl, HBW.out⟩
      · have hin : i < 3 := by omega
        have hiI : (i : Int) < 3 := by omega
        have hi1I : (1 : Int) ≤ (i : Int) := by omega
        have hpl2 : p < 131072 := by
          have : 64 ^ (i - 1) ≤ 64 ^ 2 := Nat.pow_le_pow_right (by omega) (by omega)
          omega
        have hpI : (p : Int) < 131072 := by omega
        have HBAD : Hid (¬ goesOn s i → R = (0, 0)) := Lib.hid (fun h => by
          rw [HR.out, cutG_stop s 3 i hi1 hin (by rw [← HC.out]; have := HK.out; omega) h])
        clear hpl
        by_cases hiN : i < N
        · have hiNI : (i : Int) < (N : Int) := by omega
          obtain ⟨x, hx⟩ : ∃ x, x = byN s i := ⟨_, rfl⟩
          have hx256 : x < 256 := by rw [hx]; exact byN_lt s i
          have hcx : wr.cell? ⟨g, off + i, none⟩ = some (.int .u8 (x : Int)) := by
            rw [HBW.out.cell (show g < _ from hgl), hx]; exact HB.out.cell i (by have := HN.out; omega)
          have HX := Lib.hid hx
          have hxI : (x : Int) ≤ 255 := by omega
          clear hx
          rcases (show x < 128 ∨ 191 < x ∨ (128 ≤ x ∧ x ≤ 191) by omega) with hj | hj | ⟨hj, hj2⟩
          · have hjI : (x : Int) < 128 := by omega
            have HE : Hid (R = (0, 0)) := Lib.hid (HBAD.out (by rintro ⟨_, h2⟩; rw [← HX.out] at h2; omega))
            clear hj
            go_wp2_with fail
            go_ret2
            exact ⟨by rw [HE.out]; rfl, HBW.out⟩
          · have hjI : (191 : Int) < x := by omega
            have b1 : ((x : Int) < 128) = False := by simp; omega
            have b2 : ((191 : Int) < x) = True := by simp; omega
            have HE : Hid (R = (0, 0)) := Lib.hid (HBAD.out (by rintro ⟨_, h2⟩; rw [← HX.out] at h2; omega))
            clear hj
            go_wp2_with fail
            go_ret2
            exact ⟨by rw [HE.out]; rfl, HBW.out⟩
          · have hjI : (128 : Int) ≤ x := by omega
            have hjJ : (x : Int) ≤ 191 := by omega
            have hp0 : (0 : Int) ≤ (p : Int) := by omega
            have hx0 : (0 : Int) ≤ (x : Int) := by omega
            have b3 : ((N : Int) ≤ (i : Int)) = False := by simp; omega
            have hi0 : (0 : Int) ≤ (i : Int) := by omega
            have b1 : ((x : Int) < 128) = False := by simp; omega
            have b2 : ((191 : Int) < x) = False := by simp; omega
            have HG : Hid (goesOn s i) := Lib.hid ⟨by have := HN.out; omega, by rw [← HX.out]; omega⟩
            obtain ⟨y, hy⟩ : ∃ y, y = x % 64 := ⟨_, rfl⟩
            obtain ⟨t, ht⟩ : ∃ t, t = p * 64 + y := ⟨_, rfl⟩
            have q1 : bits BinOp.and IntKind.u8 (x : Int) 63 = (y : Int) := by rw [hy]; exact and63 x hx256
            have q2 : IntKind.i32.wrap (y : Int) = (y : Int) := by rw [IntKind.wrap_i32]; omega
            have q3 : IntKind.i32.wrap ((p : Int) * 64) = (p : Int) * 64 := by rw [IntKind.wrap_i32]; omega
            have q4 : bits BinOp.or IntKind.i32 ((p : Int) * 64) (y : Int) = (t : Int) := by rw [ht]; exact i32_or_nat p y (by omega) (by omega)
            have hyI : (y : Int) < 64 := by omega
            have HT : Hid (t = partN s r0 i) := Lib.hid (by
              have e : i = (i - 1) + 1 := by omega
              rw [e, partN, ← HP.out, ← e, ← HX.out, ← hy, ht])
            clear hj hj2 hy ht hx256 hpl2
            go_wp2_with fail
            go_roundg (gk - 1)
            case measure => omega
            case rel =>
              refine ⟨i + 1, by omega, by omega, by first | rfl | exact congrArg _ (by omega), by rw [HT.out]; rfl, ?_, HBW.out⟩
              intro j h1 h2
              by_cases hji : j = i
              · rw [hji]; exact HG.out
              · exact HON.out j h1 (by omega)
        · have hiNI : (N : Int) ≤ (i : Int) := by omega
          have HE : Hid (R = (0, 0)) := Lib.hid (HBAD.out (by rintro ⟨h2, _⟩; have := HN.out; omega))
          clear hiN
          go_wp2_with fail
          go_ret2
          exact ⟨by rw [HE.out]; rfl, HBW.out⟩
  · obtain ⟨r0, hr0⟩ : ∃ r0, r0 = c % 8 := ⟨_, rfl⟩
    rw [← hr0] at q7
    have hr0l : r0 < 8 := by omega
    have HR0 := Lib.hid hr0
    have HK := Lib.hid hk
    have hkI : (240 : Int) ≤ (c : Int) := by omega
    have hkJ : (c : Int) < 248 := by omega
    have q0 : IntKind.i32.wrap (r0 : Int) = (r0 : Int) := by rw [IntKind.wrap_i32]; omega
    have hr0I : (r0 : Int) < 8 := by omega
    clear hk q31 q15 hr0
    go_enter Tryd.func19, Tryd.ntmps19
    go_wp2_with fail
    go_region_held3 (fun w' => w'.cell? ⟨g, off, none⟩ = some (.int .u8 (c : Int))) (go_keep) (fail)
    all_goals go_wp2_with fail
    go_region_held3 (fun w' => w'.cell? ⟨g, off, none⟩ = some (.int .u8 (c : Int))) (go_keep) (fail)
    all_goals go_wp2_with fail
    go_loopg [6, 7] 3 (fun k vr vi wr => CutRel w s r0 4 k vr vi wr)
    case atStart => exact ⟨1, by omega, by omega, rfl, rfl, fun j h1 h2 => by omega, ((Below.refl _ w).drew).drew⟩
    case round =>
      obtain ⟨i, hik, hi1, rfl, rfl, hon, hbw⟩ := hrel
      have HON := Lib.hid hon
      have HBW := Lib.hid hbw
      obtain ⟨p, hp⟩ : ∃ p, p = partN s r0 (i - 1) := ⟨_, rfl⟩
      have hpl : p < 32 * 64 ^ (i - 1) := by rw [hp]; exact partN_lt s r0 (by omega) (i - 1)
      have HP := Lib.hid hp
      rw [← hp]
      clear hon hbw hp
      rcases Nat.eq_zero_or_pos gk with h0k | h0k
      · obtain rfl := h0k
        obtain rfl : i = 4 := by omega
        have hpl2 : p < 8388608 := by
          have : 32 * 64 ^ (4 - 1) ≤ 8388608 := by decide
          omega
        have hpI : (p : Int) < 8388608 := by omega
        have HF : Hid (R = judged 65536 p 4) := Lib.hid (by
          rw [HR.out, cutG_four s (by rw [← HC.out]; exact HK.out) HON.out, HP.out, HR0.out, HC.out])
        clear hpl hpl2
        rcases (show p < 65536 ∨ (65536 ≤ p ∧ 1114111 < p) ∨ (65536 ≤ p ∧ 55296 ≤ p ∧ p ≤ 57343) ∨ (65536 ≤ p ∧ p ≤ 1114111 ∧ p < 55296) ∨ (65536 ≤ p ∧ p ≤ 1114111 ∧ 57343 < p) by omega) with hj | ⟨hj0, hj⟩ | ⟨hj0, hj, hj2⟩ | ⟨hj0, hj1, hj⟩ | ⟨hj0, hj1, hj⟩
        · have hjI : (p : Int) < 65536 := by omega
          have HE : Hid (R = (0, 0)) := Lib.hid (by rw [HF.out]; unfold judged; rw [if_pos (by omega)])
          clear hj
          go_wp2_with fail
          go_ret2
          exact ⟨by rw [HE.out]; rfl, HBW.out⟩
        · have hjI : (1114111 : Int) < p := by omega
          have hjJ : (65536 : Int) ≤ p := by omega
          have HE : Hid (R = (0, 0)) := Lib.hid (by rw [HF.out]; unfold judged; rw [if_pos (by omega)])
          clear hj hj0
          go_wp2_with fail
          go_ret2
          exact ⟨by rw [HE.out]; rfl, HBW.out⟩
        · have hjI : (55296 : Int) ≤ p := by omega
          have hjJ : (p : Int) ≤ 57343 := by omega
          have hjK : (65536 : Int) ≤ p := by omega
          have b1 : ((p : Int) < 65536) = False := by simp; omega
          have b2 : ((1114111 : Int) < p) = False := by simp; omega
          have b3 : ((55296 : Int) ≤ p) = True := by simp; omega
          have b4 : ((p : Int) ≤ 57343) = True := by simp; omega
          have HE : Hid (R = (0, 0)) := Lib.hid (by rw [HF.out]; unfold judged; rw [if_pos (by omega)])
          clear hj hj0 hj2
          go_wp2_with fail
          go_ret2
          exact ⟨by rw [HE.out]; rfl, HBW.out⟩
        · have hjI : (p : Int) < 55296 := by omega
          have hjK : (65536 : Int) ≤ p := by omega
          have b1 : ((p : Int) < 65536) = False := by simp; omega
          have b2 : ((1114111 : Int) < p) = False := by simp; omega
          have b3 : ((55296 : Int) ≤ p) = False := by simp; omega
          have HE : Hid (R = (p, 4)) := Lib.hid (by rw [HF.out]; unfold judged; rw [if_neg (by omega)])
          clear hj hj0 hj1
          go_wp2_with fail
          go_ret2
          exact ⟨by rw [HE.out]; rfl, HBW.out⟩
        · have hjI : (57343 : Int) < p := by omega
          have hjJ : (p : Int) ≤ 1114111 := by omega
          have hjK : (65536 : Int) ≤ p := by omega
          have b1 : ((p : Int) < 65536) = False := by simp; omega
          have b2 : ((1114111 : Int) < p) = False := by simp; omega
          have b3 : ((55296 : Int) ≤ p) = True := by simp; omega
          have b4 : ((p : Int) ≤ 57343) = False := by simp; omega
          have HE : Hid (R = (p, 4)) := Lib.hid (by rw [HF.out]; unfold judged; rw [if_neg (by omega)])
          clear hj hj0 hj1
          go_wp2_with fail
          go_ret2
          exact ⟨by rw [HE.out]; rfl, HBW.out⟩
      · have hin : i < 4 := by omega
        have hiI : (i : Int) < 4 := by omega
        have hi1I : (1 : Int) ≤ (i : Int) := by omega
        have hpl2 : p < 131072 := by
          have : 64 ^ (i - 1) ≤ 64 ^ 2 := Nat.pow_le_pow_right (by omega) (by omega)
          omega
        have hpI : (p : Int) < 131072 := by omega
        have HBAD : Hid (¬ goesOn s i → R = (0, 0)) := Lib.hid (fun h => by
          rw [HR.out, cutG_stop s 4 i hi1 hin (by rw [← HC.out]; have := HK.out; omega) h])
        clear hpl
        by_cases hiN : i < N
        · have hiNI : (i : Int) < (N : Int) := by omega
          obtain ⟨x, hx⟩ : ∃ x, x = byN s i := ⟨_, rfl⟩
          have hx256 : x < 256 := by rw [hx]; exact byN_lt s i
          have hcx : wr.cell? ⟨g, off + i, none⟩ = some (.int .u8 (x : Int)) := by
            rw [HBW.out.cell (show g < _ from hgl), hx]; exact HB.out.cell i (by have := HN.out; omega)
          have HX := Lib.hid hx
          have hxI : (x : Int) ≤ 255 := by omega
          clear hx
          rcases (show x < 128 ∨ 191 < x ∨ (128 ≤ x ∧ x ≤ 191) by omega) with hj | hj | ⟨hj, hj2⟩
          · have hjI : (x : Int) < 128 := by omega
            have HE : Hid (R = (0, 0)) := Lib.hid (HBAD.out (by rintro ⟨_, h2⟩; rw [← HX.out] at h2; omega))
            clear hj
            go_wp2_with fail
            go_ret2
            exact ⟨by rw [HE.out]; rfl, HBW.out⟩
          · have hjI : (191 : Int) < x := by omega
            have b1 : ((x : Int) < 128) = False := by simp; omega
            have b2 : ((191 : Int) < x) = True := by simp; omega
            have HE : Hid (R = (0, 0)) := Lib.hid (HBAD.out (by rintro ⟨_, h2⟩; rw [← HX.out] at h2; omega))
            clear hj
            go_wp2_with fail
            go_ret2
            exact ⟨by rw [HE.out]; rfl, HBW.out⟩
          · have hjI : (128 : Int) ≤ x := by omega
            have hjJ : (x : Int) ≤ 191 := by omega
            have hp0 : (0 : Int) ≤ (p : Int) := by omega
            have hx0 : (0 : Int) ≤ (x : Int) := by omega
            have b3 : ((N : Int) ≤ (i : Int)) = False := by simp; omega
            have hi0 : (0 : Int) ≤ (i : Int) := by omega
            have b1 : ((x : Int) < 128) = False := by simp; omega
            have b2 : ((191 : Int) < x) = False := by simp; omega
            have HG : Hid (goesOn s i) := Lib.hid ⟨by have := HN.out; omega, by rw [← HX.out]; omega⟩
            obtain ⟨y, hy⟩ : ∃ y, y = x % 64 := ⟨_, rfl⟩
            obtain ⟨t, ht⟩ : ∃ t, t = p * 64 + y := ⟨_, rfl⟩
            have q1 : bits BinOp.and IntKind.u8 (x : Int) 63 = (y : Int) := by rw [hy]; exact and63 x hx256
            have q2 : IntKind.i32.wrap (y : Int) = (y : Int) := by rw [IntKind.wrap_i32]; omega
            have q3 : IntKind.i32.wrap ((p : Int) * 64) = (p : Int) * 64 := by rw [IntKind.wrap_i32]; omega
            have q4 : bits BinOp.or IntKind.i32 ((p : Int) * 64) (y : Int) = (t : Int) := by rw [ht]; exact i32_or_nat p y (by omega) (by omega)
            have hyI : (y : Int) < 64 := by omega
            have HT : Hid (t = partN s r0 i) := Lib.hid (by
              have e : i = (i - 1) + 1 := by omega
              rw [e, partN, ← HP.out, ← e, ← HX.out, ← hy, ht])
            clear hj hj2 hy ht hx256 hpl2
            go_wp2_with fail
            go_roundg (gk - 1)
            case measure => omega
            case rel =>
              refine ⟨i + 1, by omega, by omega, by first | rfl | exact congrArg _ (by omega), by rw [HT.out]; rfl, ?_, HBW.out⟩
              intro j h1 h2
              by_cases hji : j = i
              · rw [hji]; exact HG.out
              · exact HON.out j h1 (by omega)
        · have hiNI : (N : Int) ≤ (i : Int) := by omega
          have HE : Hid (R = (0, 0)) := Lib.hid (HBAD.out (by rintro ⟨h2, _⟩; have := HN.out; omega))
          clear hiN
          go_wp2_with fail
          go_ret2
          exact ⟨by rw [HE.out]; rfl, HBW.out⟩
end Go.Proofs.YtjpdhfolfmamcaaDoor
