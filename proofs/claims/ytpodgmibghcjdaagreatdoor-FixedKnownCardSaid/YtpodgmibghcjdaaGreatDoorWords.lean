/-
  The contracts of words.go: magnitude, product, plus, over, number.
-/
import Derived.Test.YtpodgmibghcjdaaGreatDoorChecked
import Derived.Test.YtpodgmibghcjdaaGreatDoorShelf
import Derived.Test.YtpodgmibghcjdaaGreatDoorDiv
import Derived.WalkKit
import Derived.Deep.QuietTactic
import Derived.BigQuiet
import Derived.WalkLawsBesides
import Derived.Outline
import Derived.Laws.Pointers
import Derived.Laws.Externs
namespace Go.Proofs.YtpodgmibghcjdaaGreatDoor
open Go Go.RowKit

theorem ret_int {k : IntKind} {a b : Int} (h : a = b) : Ending.returned (.int k a) = .returned (.int k b) := by rw [h]

theorem magnitude_any (n : Int) (h1 : -9223372036854775808 ≤ n) (h2 : n ≤ 9223372036854775807) (w : World) :
    Calls Tryz.prog 21 #[.int .i64 n] w fun e w' => e = .returned (.int .u64 (n.natAbs : Int)) ∧ w = w' := by
  by_cases h : n < 0
  · go_enter Tryz.func21, Tryz.ntmps21
    go_wp2
    go_ret
    exact ⟨ret_int (by simp only [IntKind.wrap_u64, wrap64]; omega), rfl⟩
  · go_enter Tryz.func21, Tryz.ntmps21
    go_wp2
    go_ret
    exact ⟨ret_int (by omega), rfl⟩

def agg2 (h l : Nat) : Value := .agg #[.int .u64 (h : Int), .int .u64 (l : Int)]

theorem product_any (a b : Nat) (ha : a < 18446744073709551616) (hb : b < 18446744073709551616) (w : World) :
    Calls Tryz.prog 29 #[.int .u64 a, .int .u64 b] w fun e w' => e = .returned (agg2 (a * b / 18446744073709551616) (a * b % 18446744073709551616)) ∧ Below w.heap.size w w' := by
  go_enter Tryz.func29, Tryz.ntmps29
  go_wp2_with (go_at_call 58; refine (Tryz.bits_Mul64 _ _ ha hb _).mono ?_; rintro e w' ⟨rfl, rfl⟩)
  exact bodyPost_ret (v := agg2 (a * b / 18446744073709551616) (a * b % 18446744073709551616)) (by simp [results, Tryz.results29, go_sem, agg2]) rfl ⟨rfl, (Below.refl _ _).alloc (Nat.le_refl _) _⟩

theorem add64_run (x y : Nat) (w : World) :
    (callFunc 60 #[.int .u64 x, .int .u64 y, .int .u64 0]).run Tryz.prog w =
      .ok (.value (.tuple #[.int .u64 (((x + y) % 18446744073709551616 : Nat) : Int), .int .u64 (((x + y) / 18446744073709551616 : Nat) : Int)])) w := by
  rw [run_callFunc_extern Tryz.func60 (by kernel_rfl) (by kernel_rfl) (by kernel_rfl) (e := add64Entry) (by kernel_rfl), run_add64 x y 0 (by omega) (by omega) (by omega) (by omega)]
  simp [Result.andThen]

theorem plus_any (h l n : Nat) (hh : h ≤ 18446744073709551614) (hl : l < 18446744073709551616) (hn : n < 18446744073709551616) (w : World) :
    Calls Tryz.prog 31 #[agg2 h l, .int .u64 n] w fun e w' => e = .returned (agg2 (h + (l + n) / 18446744073709551616) ((l + n) % 18446744073709551616)) ∧ Below w.heap.size w w' := by
  unfold agg2
  have ha := add64_run l n
  obtain ⟨c, hc⟩ : ∃ c, c = (l + n) / 18446744073709551616 := ⟨_, rfl⟩
  obtain ⟨d, hd⟩ : ∃ d, d = (l + n) % 18446744073709551616 := ⟨_, rfl⟩
  have hc1 : c ≤ 1 := by omega
  rw [← hc, ← hd] at ha ⊢
  clear hc hd
  go_enter Tryz.func31, Tryz.ntmps31
  go_wp2_with fail
  exact bodyPost_ret (v := .agg #[.int .u64 ((h : Int) + c), .int .u64 (d : Int)]) (by simp [results, Tryz.results31, go_sem]) rfl
    ⟨by simp, ((Below.refl _ _).alloc (Nat.le_refl _) _).alloc (by simp) _⟩

theorem over_any (h l d : Nat) (hh : h < 18446744073709551616) (hl : l < 18446744073709551616) (hd : d < 18446744073709551616) (h0 : 0 < d) (w : World) :
    Calls Tryz.prog 67 #[agg2 h l, .int .u64 d] w fun e w' =>
      e = .returned (.tuple #[agg2 (h / d) (((h % d) * 18446744073709551616 + l) / d), .int .u64 ((((h % d) * 18446744073709551616 + l) % d : Nat) : Int)]) ∧ Below w.heap.size w w' := by
  unfold agg2
  obtain ⟨r, hr⟩ : ∃ r, r = h % d := ⟨_, rfl⟩
  obtain ⟨q, hq⟩ : ∃ q, q = h / d := ⟨_, rfl⟩
  have hrd : r < d := by rw [hr]; exact Nat.mod_lt _ h0
  have hqh : q ≤ h := by rw [hq]; exact Nat.div_le_self _ _
  have e1 : (h : Int) % d = (r : Int) := by rw [hr]; simp
  have e2 : IntKind.u64.wrap ((h : Int) / d) = (q : Int) := by rw [← Int.natCast_ediv, ← hq]; exact Kn.wrap_of _ (by omega)
  have hd0 : ¬ (d : Int) = 0 := by omega
  have hdv := fun w => div64_any r l d hrd hd hl w
  rw [← hr, ← hq]
  obtain ⟨Q, hQ⟩ : ∃ Q, Q = (r * 18446744073709551616 + l) / d := ⟨_, rfl⟩
  obtain ⟨R, hR⟩ : ∃ R, R = (r * 18446744073709551616 + l) % d := ⟨_, rfl⟩
  simp only [← hQ, ← hR] at hdv ⊢
  clear hr hq hQ hR
  have HD := Lib.hid hdv
  clear hdv
  go_enter Tryz.func67, Tryz.ntmps67
  go_wp2_with fail
  go_quiet ((go_at_call 85; exact Calls.quiet_of (HD.out _)))
  go_wp2_with fail
  exact bodyPost_ret (v := .tuple #[.agg #[.int .u64 (q : Int), .int .u64 (Q : Int)], .int .u64 (R : Int)]) (by simp [results, Tryz.results67, go_sem]) rfl
    ⟨rfl, ((below_drewN (((Below.refl _ _).alloc (Nat.le_refl _) _).alloc (by simp) _) _).setCell (by simp) _).setCell (by simp) _⟩

/-- what fixed gives up with -/
def gone (k : Int) : Ending := .panicked [{ v := .iface 22 (.int .i64 k), recovered := false }]

theorem number_ok (l : Nat) (below : Bool) (h : l ≤ if below then 9223372036854775808 else 9223372036854775807) (w : World) :
    Calls Tryz.prog 33 #[agg2 0 l, .bool below] w fun e w' => e = .returned (.int .i64 (if below then -(l : Int) else l)) ∧ Below w.heap.size w w' := by
  unfold agg2
  cases below
  · simp only [Bool.false_eq_true, if_false] at h ⊢
    go_enter Tryz.func33, Tryz.ntmps33
    go_wp2
    go_ret
    exact ⟨rfl, (Below.refl _ _).alloc (Nat.le_refl _) _⟩
  · simp only [if_true] at h ⊢
    go_enter Tryz.func33, Tryz.ntmps33
    go_wp2
    go_ret
    exact ⟨ret_int (by unfold wrap64; omega), (Below.refl _ _).alloc (Nat.le_refl _) _⟩

theorem number_bad (h l : Nat) (below : Bool) (hb : h ≠ 0 ∨ (if below then 9223372036854775808 else 9223372036854775807) < l) (w : World) :
    Calls Tryz.prog 33 #[agg2 h l, .bool below] w fun e w' => e = gone 10 ∧ Below w.heap.size w w' := by
  unfold agg2 gone
  by_cases hh : h = 0
  · subst hh
    have hb' : (if below = true then 9223372036854775808 else 9223372036854775807) < l := by simpa using hb
    clear hb
    cases below
    · simp only [Bool.false_eq_true, if_false] at hb'
      have hl : (9223372036854775807 : Int) < l := by omega
      clear hb'
      go_enter Tryz.func33, Tryz.ntmps33
      go_wp2
      exact ⟨rfl, rfl, (Below.refl _ _).alloc (Nat.le_refl _) _⟩
    · simp only [if_true] at hb'
      have hl : (9223372036854775808 : Int) < l := by omega
      clear hb'
      go_enter Tryz.func33, Tryz.ntmps33
      go_wp2
      exact ⟨rfl, rfl, (Below.refl _ _).alloc (Nat.le_refl _) _⟩
  · have hn : ((h : Int) != 0) = true := by simp [hh]
    clear hb
    cases below
    · go_enter Tryz.func33, Tryz.ntmps33
      go_wp2
      exact ⟨rfl, rfl, (Below.refl _ _).alloc (Nat.le_refl _) _⟩
    · go_enter Tryz.func33, Tryz.ntmps33
      go_wp2
      exact ⟨rfl, rfl, (Below.refl _ _).alloc (Nat.le_refl _) _⟩
end Go.Proofs.YtpodgmibghcjdaaGreatDoor
