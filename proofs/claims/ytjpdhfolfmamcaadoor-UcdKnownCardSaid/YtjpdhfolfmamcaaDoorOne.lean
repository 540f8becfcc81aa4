/-
  The document's One: a character's bytes.
-/
import Derived.Test.YtjpdhfolfmamcaaDoorBackP
import Derived.Laws.Bits
namespace Go.Proofs.YtjpdhfolfmamcaaDoor
open Go Go.RowKit

/-- a new slice that reads as these small numbers -/
def NewB (w w' : World) (v : Value) (l : List Nat) : Prop :=
  v = .slice (some ⟨w.heap.size, 0, none⟩) l.length l.length ∧ w' = w.alloc (.cells (l.map fun d : Nat => Value.int .u8 (d : Int)).toArray 5)

theorem and63i (c : Nat) (h : c < 2147483648) : bits .and .i32 (c : Int) 63 = ((c % 64 : Nat) : Int) := by
  have h1 : (BitVec.ofInt 32 (c : Int)).toNat = c := by rw [BitVec.ofInt_natCast, BitVec.toNat_ofNat]; exact Nat.mod_eq_of_lt (by omega)
  have h2 : (BitVec.ofInt 32 (63 : Int)).toNat = 63 := by decide
  show IntKind.i32.wrap ((BitVec.ofInt 32 (c : Int) &&& BitVec.ofInt 32 (63 : Int)).toNat : Int) = _
  rw [BitVec.toNat_and, h1, h2, show c &&& 63 = c % 64 from Nat.and_two_pow_sub_one_eq_mod c 6, IntKind.wrap_i32]
  omega

theorem or128 (c : Nat) (h : c < 64) : bits .or .u8 128 (c : Int) = ((128 + c : Nat) : Int) := by
  have e := u8_or128 (y := (c : Int)) (by omega) (by omega)
  exact e.trans (by omega)
theorem or192 (c : Nat) (h : c < 32) : bits .or .u8 192 (c : Int) = ((192 + c : Nat) : Int) := by
  have e := u8_or192 (y := (c : Int)) (by omega) (by omega)
  exact e.trans (by omega)
theorem or224 (c : Nat) (h : c < 16) : bits .or .u8 224 (c : Int) = ((224 + c : Nat) : Int) := by
  have e := u8_or224 (y := (c : Int)) (by omega) (by omega)
  exact e.trans (by omega)
theorem or240 (c : Nat) (h : c < 8) : bits .or .u8 240 (c : Int) = ((240 + c : Nat) : Int) := by
  have e := u8_or240 (y := (c : Int)) (by omega) (by omega)
  exact e.trans (by omega)

set_option maxHeartbeats 1000000 in
set_option maxRecDepth 20000 in
theorem one_any (r : Nat) (hr : r ≤ 1114111) (w : World) :
    Calls Tryd.prog 18 #[.int .i32 (r : Int)] w fun e w' => ∃ v, e = .returned v ∧ NewB w w' v (encN r) := by
  have hr0 : (0 : Int) ≤ (r : Int) := Int.natCast_nonneg _
  rcases (show r < 128 ∨ (128 ≤ r ∧ r < 2048) ∨ (2048 ≤ r ∧ r < 65536) ∨ 65536 ≤ r by omega) with h | h | h | h
  · have hI : (r : Int) < 128 := by omega
    have q1 : IntKind.u8.wrap (r : Int) = (r : Int) := by rw [IntKind.wrap_u8]; omega
    have HE : Hid (encN r = [r]) := Lib.hid (by unfold encN; rw [if_pos h])
    clear h
    go_enter Tryd.func18, Tryd.ntmps18
    go_wp2_with fail
    go_ret
    refine ⟨_, rfl, ?_⟩
    rw [HE.out]
    exact ⟨rfl, rfl⟩
  · have hI : (128 : Int) ≤ (r : Int) := by omega
    have hJ : (r : Int) < 2048 := by omega
    have HE : Hid (encN r = [192 + r / 64, 128 + r % 64]) := Lib.hid (by unfold encN; rw [if_neg (by omega), if_pos h.2])
    obtain ⟨a, ha⟩ : ∃ a, a = r / 64 := ⟨_, rfl⟩
    obtain ⟨b, hb⟩ : ∃ b, b = r % 64 := ⟨_, rfl⟩
    have q1 : (r : Int) / 64 = (a : Int) := by omega
    have q2 : IntKind.u8.wrap (a : Int) = (a : Int) := by rw [IntKind.wrap_u8]; omega
    have q3 := or192 a (by omega)
    have q4 : bits .and .i32 (r : Int) 63 = (b : Int) := by rw [hb]; exact and63i r (by omega)
    have q5 : IntKind.u8.wrap (b : Int) = (b : Int) := by rw [IntKind.wrap_u8]; omega
    have q6 := or128 b (by omega)
    have b1 : ((r : Int) < 128) = False := by simp; omega
    rw [← ha, ← hb] at HE
    clear h ha hb
    go_enter Tryd.func18, Tryd.ntmps18
    go_wp2_with fail
    go_ret
    refine ⟨_, rfl, ?_⟩
    rw [HE.out]
    exact ⟨rfl, rfl⟩
  · have hI : (2048 : Int) ≤ (r : Int) := by omega
    have hJ : (r : Int) < 65536 := by omega
    have HE : Hid (encN r = [224 + r / 4096, 128 + r / 64 % 64, 128 + r % 64]) := Lib.hid (by unfold encN; rw [if_neg (by omega), if_neg (by omega), if_pos h.2])
    obtain ⟨a, ha⟩ : ∃ a, a = r / 4096 := ⟨_, rfl⟩
    obtain ⟨b0, hb0⟩ : ∃ b0, b0 = r / 64 := ⟨_, rfl⟩
    obtain ⟨b, hb⟩ : ∃ b, b = b0 % 64 := ⟨_, rfl⟩
    obtain ⟨c, hc⟩ : ∃ c, c = r % 64 := ⟨_, rfl⟩
    have q1 : (r : Int) / 4096 = (a : Int) := by omega
    have q1' : (r : Int) / 64 = (b0 : Int) := by omega
    have q2 : IntKind.u8.wrap (a : Int) = (a : Int) := by rw [IntKind.wrap_u8]; omega
    have q3 := or224 a (by omega)
    have q4 : bits .and .i32 (b0 : Int) 63 = (b : Int) := by rw [hb]; exact and63i b0 (by omega)
    have q5 : IntKind.u8.wrap (b : Int) = (b : Int) := by rw [IntKind.wrap_u8]; omega
    have q6 := or128 b (by omega)
    have q7 : bits .and .i32 (r : Int) 63 = (c : Int) := by rw [hc]; exact and63i r (by omega)
    have q8 : IntKind.u8.wrap (c : Int) = (c : Int) := by rw [IntKind.wrap_u8]; omega
    have q9 := or128 c (by omega)
    have b1 : ((r : Int) < 128) = False := by simp; omega
    have b2 : ((r : Int) < 2048) = False := by simp; omega
    rw [← ha, ← hb0, ← hb, ← hc] at HE
    clear h ha hb hb0 hc
    go_enter Tryd.func18, Tryd.ntmps18
    go_wp2_with fail
    go_ret
    refine ⟨_, rfl, ?_⟩
    rw [HE.out]
    exact ⟨rfl, rfl⟩
  · have hI : (65536 : Int) ≤ (r : Int) := by omega
    have hJ : (r : Int) ≤ 1114111 := by omega
    have HE : Hid (encN r = [240 + r / 262144, 128 + r / 4096 % 64, 128 + r / 64 % 64, 128 + r % 64]) := Lib.hid (by unfold encN; rw [if_neg (by omega), if_neg (by omega), if_neg (by omega)])
    obtain ⟨a, ha⟩ : ∃ a, a = r / 262144 := ⟨_, rfl⟩
    obtain ⟨b0, hb0⟩ : ∃ b0, b0 = r / 4096 := ⟨_, rfl⟩
    obtain ⟨b, hb⟩ : ∃ b, b = b0 % 64 := ⟨_, rfl⟩
    obtain ⟨c0, hc0⟩ : ∃ c0, c0 = r / 64 := ⟨_, rfl⟩
    obtain ⟨c, hc⟩ : ∃ c, c = c0 % 64 := ⟨_, rfl⟩
    obtain ⟨d, hd⟩ : ∃ d, d = r % 64 := ⟨_, rfl⟩
    have q1 : (r : Int) / 262144 = (a : Int) := by omega
    have q1' : (r : Int) / 4096 = (b0 : Int) := by omega
    have q1'' : (r : Int) / 64 = (c0 : Int) := by omega
    have q2 : IntKind.u8.wrap (a : Int) = (a : Int) := by rw [IntKind.wrap_u8]; omega
    have q3 := or240 a (by omega)
    have q4 : bits .and .i32 (b0 : Int) 63 = (b : Int) := by rw [hb]; exact and63i b0 (by omega)
    have q5 : IntKind.u8.wrap (b : Int) = (b : Int) := by rw [IntKind.wrap_u8]; omega
    have q6 := or128 b (by omega)
    have q4' : bits .and .i32 (c0 : Int) 63 = (c : Int) := by rw [hc]; exact and63i c0 (by omega)
    have q5' : IntKind.u8.wrap (c : Int) = (c : Int) := by rw [IntKind.wrap_u8]; omega
    have q6' := or128 c (by omega)
    have q7 : bits .and .i32 (r : Int) 63 = (d : Int) := by rw [hd]; exact and63i r (by omega)
    have q8 : IntKind.u8.wrap (d : Int) = (d : Int) := by rw [IntKind.wrap_u8]; omega
    have q9 := or128 d (by omega)
    have b1 : ((r : Int) < 128) = False := by simp; omega
    have b2 : ((r : Int) < 2048) = False := by simp; omega
    have b3 : ((r : Int) < 65536) = False := by simp; omega
    rw [← ha, ← hb0, ← hc0, ← hb, ← hc, ← hd] at HE
    clear h ha hb hb0 hc hc0 hd
    go_enter Tryd.func18, Tryd.ntmps18
    go_wp2_with fail
    go_ret
    refine ⟨_, rfl, ?_⟩
    rw [HE.out]
    exact ⟨rfl, rfl⟩
end Go.Proofs.YtjpdhfolfmamcaaDoor
