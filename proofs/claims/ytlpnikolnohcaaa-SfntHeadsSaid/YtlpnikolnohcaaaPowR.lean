/-
  The document's powers, the next multiple of four, is a name head?
-/
import Derived.Test.YtlpnikolnohcaaaTagR
namespace Go.Proofs.Ytlpnikolnohcaaa
open Go Go.RowKit

def PwRel (w : World) (n k : Nat) (vp ve : Value) (wr : World) : Prop := ∃ e : Nat, e + k = Nat.log2 n ∧ vp = .int .i64 ((2 ^ e : Nat) : Int) ∧ ve = .int .i64 (e : Int) ∧ Below w.heap.size w wr

set_option maxRecDepth 20000 in
theorem power_any (w : World) (n : Nat) (h1 : 1 ≤ n) (h2 : n ≤ 1000000) : Calls Try.prog 57 #[.int .i64 (n : Int)] w fun e w' => e = .returned (.tuple #[.int .i64 ((2 ^ Nat.log2 n : Nat) : Int), .int .i64 ((Nat.log2 n : Nat) : Int)]) ∧ Below w.heap.size w w' := by
  obtain ⟨L, hL⟩ : ∃ L, L = Nat.log2 n := ⟨_, rfl⟩
  have HL := Lib.hid hL
  have hne : n ≠ 0 := by omega
  have HUP : Hid (∀ e, e < L → 2 * 2 ^ e ≤ n) := Lib.hid (fun e he => by
    have h : 2 ^ (e + 1) ≤ n := (Nat.le_log2 hne).1 (by omega)
    rw [Nat.pow_succ] at h; omega)
  have HTOP : Hid (n < 2 * 2 ^ L) := Lib.hid (by
    have h : n < 2 ^ (L + 1) := (Nat.log2_lt hne).1 (by omega)
    rw [Nat.pow_succ] at h; omega)
  have HLT : Hid (L ≤ 1000000) := Lib.hid (by
    have h : 2 ^ L ≤ n := (Nat.le_log2 hne).1 (by omega)
    have := Nat.lt_two_pow_self (n := L)
    omega)
  rw [← hL]
  clear hL hne
  go_enter Try.func57, Try.ntmps57
  go_wp2_with fail
  go_loopg [4, 5] L (fun k vp ve wr => PwRel w n k vp ve wr)
  case atStart => exact ⟨0, by rw [HL.out]; omega, rfl, rfl, Below.refl _ _⟩
  case round =>
    obtain ⟨e, hek, rfl, rfl, hb⟩ := hrel
    have HB := Lib.hid hb
    have hek' : e + gk = L := by rw [HL.out]; exact hek
    clear hek
    by_cases hk : gk = 0
    · have he : e = L := by omega
      subst he
      have ht := HTOP.out
      obtain ⟨p, hp⟩ : ∃ p, p = 2 ^ e := ⟨_, rfl⟩
      have HPP := Lib.hid hp
      rw [← hp] at ht ⊢
      obtain ⟨p2, hp2⟩ : ∃ p2, p2 = 2 * p := ⟨_, rfl⟩
      have hpn : p ≤ n := by
        have h := HTOP.out
        rw [← hp] at h
        have h3 : 2 ^ e ≤ n := (Nat.le_log2 (by omega)).1 (by rw [HL.out]; exact Nat.le_refl _)
        rw [← hp] at h3; exact h3
      have q1 : IntKind.i64.wrap (2 * (p : Int)) = (p2 : Int) := by rw [IntKind.wrap_i64]; omega
      have b1 : ((p2 : Int) ≤ (n : Int)) = False := eq_false (by omega)
      clear hk hek' hb ht hp hp2 hpn
      go_wp2_with fail
      go_ret2
      exact ⟨by rw [HPP.out]; rfl, HB.out⟩
    · have hu := HUP.out e (by omega)
      obtain ⟨e1, he1⟩ : ∃ e1, e1 = e + 1 := ⟨_, rfl⟩
      have hpe : 2 ^ e1 = 2 * 2 ^ e := by rw [he1, Nat.pow_succ]; omega
      have HPE := Lib.hid hpe
      obtain ⟨p, hp⟩ : ∃ p, p = 2 ^ e := ⟨_, rfl⟩
      rw [← hp] at hu hpe ⊢
      obtain ⟨p2, hp2⟩ : ∃ p2, p2 = 2 ^ e1 := ⟨_, rfl⟩
      rw [← hp2] at hpe
      have q1 : IntKind.i64.wrap (2 * (p : Int)) = (p2 : Int) := by rw [IntKind.wrap_i64]; omega
      have q2 : IntKind.i64.wrap ((e : Int) + 1) = (e1 : Int) := by rw [IntKind.wrap_i64]; have := HLT.out; omega
      have b1 : ((p2 : Int) ≤ (n : Int)) = True := eq_true (by omega)
      have HP2 := Lib.hid hp2
      have HE1 := Lib.hid he1
      have HEK := Lib.hid hek'
      have HK := Lib.hid hk
      clear hk hek' hb hu he1 hpe hp hp2
      go_wp2_with fail
      go_roundg (gk - 1)
      case measure => have := HK.out; omega
      case rel => exact ⟨e1, by rw [← HL.out]; have := HEK.out; have := HK.out; have := HE1.out; omega, by rw [← HP2.out], rfl, HB.out⟩

set_option maxRecDepth 20000 in
theorem up_any (w : World) (n : Nat) (h2 : n ≤ 1000000000) : Calls Try.prog 35 #[.int .i64 (n : Int)] w fun e w' => e = .returned (.int .i64 (((n + 3) / 4 * 4 : Nat) : Int)) ∧ w = w' := by
  obtain ⟨a, ha⟩ : ∃ a, a = n + 3 := ⟨_, rfl⟩
  obtain ⟨b, hb⟩ : ∃ b, b = a / 4 := ⟨_, rfl⟩
  obtain ⟨c, hc⟩ : ∃ c, c = b * 4 := ⟨_, rfl⟩
  rw [show (n + 3) / 4 * 4 = c by omega]
  have q1 : IntKind.i64.wrap ((n : Int) + 3) = (a : Int) := by rw [IntKind.wrap_i64]; omega
  have q2 : wrap64 ((a : Int) / 4) = (b : Int) := by unfold wrap64; omega
  have q3 : IntKind.i64.wrap ((b : Int) * 4) = (c : Int) := by rw [IntKind.wrap_i64]; omega
  clear ha hb hc h2
  go_enter Try.func35, Try.ntmps35
  go_wp2_with fail
  go_ret
  exact ⟨rfl, rfl⟩
end Go.Proofs.Ytlpnikolnohcaaa
