/-
  The table's closures, called.
-/
import Derived.Test.YtjlencmoobanoaaRules
namespace Go.Proofs.Ytjlencmoobanoaa
open Go Go.RowKit

/-- a value that is called -/
structure FnIs (v : Value) (f : Nat) (cap : Array Value) : Prop where
  val : v = .func (.func f) #[] cap
  enter : ∀ args w, (callFunc f args).run Try.prog w = .ok (.enter f args) w

set_option maxRecDepth 20000 in
theorem callA {w : World} {lo hi : Nat} {v : Value} {k : AK} (h : FnA w lo hi v k) (hhi : hi ≤ w.heap.size) : ∃ f cap, FnIs v f cap ∧ ∀ p : PastS, p.last < 16 → Calls Try.prog f (#[pastV p] ++ cap) w fun e w' => e = .returned (.bool (k.says p)) ∧ Below w.heap.size w w' := by
  cases k with
  | mask m =>
    obtain ⟨pc, rfl, h1, h2, h3, h4⟩ := h
    refine ⟨_, _, ⟨rfl, fun args w => enters _ _ Try.func30 (by kernel_rfl) (by kernel_rfl) args w⟩, fun p hp => ?_⟩
    have hh := has_any m p.last h3 hp
    have HH := Lib.hid hh
    obtain ⟨l, pi, jo, od⟩ := p
    obtain ⟨b, hb⟩ : ∃ b, b = m.testBit l := ⟨_, rfl⟩
    have HB := Lib.hid hb
    have h5 : (w.alloc (.cells #[.int .u8 (l : Int), .bool pi, .bool jo, .bool od] 35)).cell? ⟨pc, 0, none⟩ = some (.int .u16 (m : Int)) := by
      rw [((Below.refl w.heap.size w).alloc (Nat.le_refl _) _).cell (Nat.lt_of_lt_of_le h2 hhi)]; exact h4
    show Calls Try.prog 30 #[.agg #[.int .u8 (l : Int), .bool pi, .bool jo, .bool od], .pointer (some ⟨pc, 0, none⟩)] w fun e w' => e = .returned (.bool (m.testBit l)) ∧ Below w.heap.size w w'
    clear hh hp h1 h2 h3 hb h4 hhi
    go_enter Try.func30, Try.ntmps30
    go_wp2_with fail
    refine (HH.out _).mono ?_
    rintro e w1 ⟨rfl, rfl⟩
    go_wp2_with fail
    go_ret
    exact ⟨rfl, (Below.refl _ w).alloc (Nat.le_refl _) _⟩
  | any =>
    cases h
    refine ⟨_, _, ⟨rfl, fun args w => enters _ _ Try.func34 (by kernel_rfl) (by kernel_rfl) args w⟩, fun p hp => ?_⟩
    obtain ⟨l, pi, jo, od⟩ := p
    show Calls Try.prog 34 #[.agg #[.int .u8 (l : Int), .bool pi, .bool jo, .bool od]] w fun e w' => e = .returned (.bool true) ∧ Below w.heap.size w w'
    go_enter Try.func34, Try.ntmps34
    go_wp2_with fail
    go_ret
    exact ⟨rfl, (Below.refl _ w).alloc (Nat.le_refl _) _⟩
  | joined =>
    cases h
    refine ⟨_, _, ⟨rfl, fun args w => enters _ _ Try.func36 (by kernel_rfl) (by kernel_rfl) args w⟩, fun p hp => ?_⟩
    obtain ⟨l, pi, jo, od⟩ := p
    show Calls Try.prog 36 #[.agg #[.int .u8 (l : Int), .bool pi, .bool jo, .bool od]] w fun e w' => e = .returned (.bool jo) ∧ Below w.heap.size w w'
    go_enter Try.func36, Try.ntmps36
    go_wp2_with fail
    go_ret
    exact ⟨rfl, (Below.refl _ w).alloc (Nat.le_refl _) _⟩
  | odd =>
    cases h
    refine ⟨_, _, ⟨rfl, fun args w => enters _ _ Try.func37 (by kernel_rfl) (by kernel_rfl) args w⟩, fun p hp => ?_⟩
    obtain ⟨l, pi, jo, od⟩ := p
    show Calls Try.prog 37 #[.agg #[.int .u8 (l : Int), .bool pi, .bool jo, .bool od]] w fun e w' => e = .returned (.bool od) ∧ Below w.heap.size w w'
    go_enter Try.func37, Try.ntmps37
    go_wp2_with fail
    go_ret
    exact ⟨rfl, (Below.refl _ w).alloc (Nat.le_refl _) _⟩

set_option maxRecDepth 20000 in
theorem callB {w : World} {lo hi : Nat} {v : Value} {k : BK} (h : FnB w lo hi v k) : ∃ f cap, FnIs v f cap ∧ ∀ c : Nat, c < 16 → Calls Try.prog f (#[.int .u8 (c : Int)] ++ cap) w fun e w' => e = .returned (.bool (k.says c)) ∧ Below w.heap.size w w' := by
  cases k with
  | mask m =>
    obtain ⟨pc, rfl, h1, h2, h3, h4⟩ := h
    refine ⟨_, _, ⟨rfl, fun args w => enters _ _ Try.func33 (by kernel_rfl) (by kernel_rfl) args w⟩, fun c hc => ?_⟩
    have HH := Lib.hid (has_any m c h3 hc)
    show Calls Try.prog 33 #[.int .u8 (c : Int), .pointer (some ⟨pc, 0, none⟩)] w fun e w' => e = .returned (.bool (m.testBit c)) ∧ Below w.heap.size w w'
    clear hc h1 h2 h3
    go_enter Try.func33, Try.ntmps33
    go_wp2_with fail
    refine (HH.out _).mono ?_
    rintro e w1 ⟨rfl, rfl⟩
    go_wp2_with fail
    go_ret
    exact ⟨rfl, Below.refl _ _⟩
  | any =>
    cases h
    refine ⟨_, _, ⟨rfl, fun args w => enters _ _ Try.func35 (by kernel_rfl) (by kernel_rfl) args w⟩, fun c hc => ?_⟩
    show Calls Try.prog 35 #[.int .u8 (c : Int)] w fun e w' => e = .returned (.bool true) ∧ Below w.heap.size w w'
    go_enter Try.func35, Try.ntmps35
    go_wp2_with fail
    go_ret
    exact ⟨rfl, Below.refl _ _⟩
end Go.Proofs.Ytjlencmoobanoaa
