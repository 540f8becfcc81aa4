/-
  Sets of classes, and what is carried along: setOf, has, with.
-/
import Derived.Test.YtjlencmoobanoaaEq
import Derived.WalkLawsBesides
import Derived.WalkSpells
import Derived.Deep.LoopGhost
import Derived.Lib.Hide
namespace Go.Proofs.Ytjlencmoobanoaa
open Go Go.RowKit

theorem add_flat (b o i : Nat) : (⟨b, o, none⟩ : Addr).add i = ⟨b, o + i, none⟩ := by unfold Addr.add; split <;> simp_all

/-- the set of classes as a number -/
def maskN : List Nat → Nat → Nat
  | [], m => m
  | c :: l, m => maskN l (m ||| 2 ^ c)

def SetRel (w : World) (cs : List Nat) (n k : Nat) (vs vi : Value) (wr : World) : Prop :=
  w = wr ∧ ∃ i m, i + k = n ∧ vi = .int .i64 ((i : Nat) : Int) ∧ vs = .int .u16 ((m : Nat) : Int) ∧ m < 65536 ∧ maskN cs 0 = maskN (cs.drop i) m

theorem u16_or (m k : Nat) (hm : m < 65536) (hk : k < 65536) : bits .or .u16 (m : Int) (k : Int) = ((m ||| k : Nat) : Int) := by
  have h1 : (BitVec.ofInt 16 (m : Int)).toNat = m := by rw [BitVec.ofInt_natCast, BitVec.toNat_ofNat]; exact Nat.mod_eq_of_lt (by omega)
  have h2 : (BitVec.ofInt 16 (k : Int)).toNat = k := by rw [BitVec.ofInt_natCast, BitVec.toNat_ofNat]; exact Nat.mod_eq_of_lt (by omega)
  show IntKind.u16.wrap ((BitVec.ofInt 16 (m : Int) ||| BitVec.ofInt 16 (k : Int)).toNat : Int) = _
  rw [BitVec.toNat_or, h1, h2, IntKind.wrap_u16]
  have : m ||| k < 2 ^ 16 := Nat.or_lt_two_pow (by omega) (by omega)
  omega

set_option maxHeartbeats 1000000 in
set_option maxRecDepth 20000 in
theorem setOf_any (cs : List Nat) (hcs : ∀ c ∈ cs, c < 16) (hl : cs.length ≤ 100) (g : Nat) (n cap : Nat) (hn : n = cs.length) (w : World) (hcell : ∀ (j : Nat) (h : j < cs.length), w.cell? ⟨g, j, none⟩ = some (.int .u8 ((cs[j] : Nat) : Int))) :
    Calls Try.prog 29 #[.slice (some ⟨g, 0, none⟩) n cap] w fun e w' => e = .returned (.int .u16 ((maskN cs 0 : Nat) : Int)) ∧ w = w' := by
  have HN := Lib.hid hn
  have HC := Lib.hid hcell
  have HCS := Lib.hid hcs
  have hnI : (n : Int) ≤ 100 := by omega
  obtain ⟨M, hM⟩ : ∃ M, M = maskN cs 0 := ⟨_, rfl⟩
  have HM := Lib.hid hM
  rw [← hM]
  clear hn hcell hcs hM
  go_enter Try.func29, Try.ntmps29
  go_wp2_with fail
  go_loopg [3, 8] n (fun k vs vi wr => SetRel w cs n k vs vi wr)
  case atStart => exact ⟨rfl, 0, 0, by omega, rfl, rfl, by omega, rfl⟩
  case round =>
    obtain ⟨rfl, i, m, hik, rfl, rfl, hm, hf⟩ := hrel
    have HF := Lib.hid hf
    clear hf
    rcases Nat.eq_zero_or_pos gk with h0 | h0
    · obtain rfl := h0
      obtain rfl : i = n := by omega
      have HE : Hid (M = m) := Lib.hid (by rw [HM.out, HF.out, List.drop_of_length_le (by have := HN.out; omega)]; rfl)
      go_wp2_with fail
      go_ret
      exact ⟨by rw [HE.out]; rfl, rfl⟩
    · have hin : i < n := by omega
      have hit : i < cs.length := by have := HN.out; omega
      have c1 := HC.out i hit
      have hc16 := HCS.out cs[i] (List.getElem_mem hit)
      obtain ⟨c, hc⟩ : ∃ c, c = cs[i] := ⟨_, rfl⟩
      rw [← hc] at c1 hc16
      have hd : maskN (cs.drop i) m = maskN (cs.drop (i + 1)) (m ||| 2 ^ c) := by rw [List.drop_eq_getElem_cons hit, maskN, ← hc]
      have hiI : (i : Int) < (n : Int) := by omega
      have hi0I : (0 : Int) ≤ (i : Int) := Int.natCast_nonneg _
      have hc0 : (0 : Int) ≤ (c : Int) := Int.natCast_nonneg _
      obtain ⟨k, hk⟩ : ∃ k, k = 2 ^ c := ⟨_, rfl⟩
      have hk16 : k < 65536 := by rw [hk]; exact Nat.lt_of_le_of_lt (Nat.pow_le_pow_right (by omega) (show c ≤ 15 by omega)) (by decide)
      have q1 : IntKind.u16.wrap ((2 : Int) ^ c) = (k : Int) := by
        have e : ((2 : Int) ^ c) = (k : Int) := by rw [hk]; simp
        rw [e, IntKind.wrap_u16]; omega
      have q2 := u16_or m k hm hk16
      obtain ⟨m', hm'⟩ : ∃ m', m' = m ||| k := ⟨_, rfl⟩
      rw [← hm'] at q2
      have HM' : Hid (m' < 65536) := Lib.hid (by rw [hm']; exact Nat.or_lt_two_pow (n := 16) hm hk16)
      rw [← hk, ← hm'] at hd
      have HD := Lib.hid hd
      clear hc hd hk hm'
      go_wp2_with fail
      go_roundg (gk - 1)
      case measure => omega
      case rel => exact ⟨rfl, i + 1, m', by omega, by first | rfl | exact congrArg _ (by omega), rfl, HM'.out, HF.out.trans HD.out⟩

/-- is a class in a set? -/
theorem has_bit (m c : Nat) : ((m / 2 ^ c) % 2 = 1) = (m.testBit c = true) := by
  rw [Nat.testBit_eq_decide_div_mod_eq]; simp

set_option maxRecDepth 20000 in
theorem has_any (m c : Nat) (hm : m < 65536) (hc : c < 16) (w : World) : Calls Try.prog 31 #[.int .u16 (m : Int), .int .u8 (c : Int)] w fun e w' => e = .returned (.bool (m.testBit c)) ∧ w = w' := by
  obtain ⟨b, hb⟩ : ∃ b, b = m.testBit c := ⟨_, rfl⟩
  have HB := Lib.hid hb
  rw [← hb]
  have hc0 : (0 : Int) ≤ (c : Int) := Int.natCast_nonneg _
  have hm0 : (0 : Int) ≤ (m : Int) := Int.natCast_nonneg _
  clear hb
  have q1 : bits .and .u16 ((m : Int) / 2 ^ c) 1 = if b then 1 else 0 := by
    obtain ⟨k, hk⟩ : ∃ k, k = m / 2 ^ c := ⟨_, rfl⟩
    have e : ((m : Int) / 2 ^ c) = (k : Int) := by rw [hk]; simp
    have hk16 : k < 65536 := by rw [hk]; exact Nat.lt_of_le_of_lt (Nat.div_le_self _ _) hm
    rw [e]
    have h1 : (BitVec.ofInt 16 (k : Int)).toNat = k := by rw [BitVec.ofInt_natCast, BitVec.toNat_ofNat]; exact Nat.mod_eq_of_lt (by omega)
    have h2 : (BitVec.ofInt 16 (1 : Int)).toNat = 1 := by decide
    show IntKind.u16.wrap ((BitVec.ofInt 16 (k : Int) &&& BitVec.ofInt 16 (1 : Int)).toNat : Int) = _
    rw [BitVec.toNat_and, h1, h2, Nat.and_one_is_mod, IntKind.wrap_u16, HB.out, Nat.testBit_eq_decide_div_mod_eq, ← hk]
    rcases (show k % 2 = 0 ∨ k % 2 = 1 by omega) with h | h <;> simp [h]
  cases b with
  | true =>
    simp only [if_true] at q1
    go_enter Try.func31, Try.ntmps31
    go_wp2_with fail
    go_ret
    exact ⟨rfl, rfl⟩
  | false =>
    simp only [Bool.false_eq_true, if_false] at q1
    go_enter Try.func31, Try.ntmps31
    go_wp2_with fail
    go_ret
    exact ⟨rfl, rfl⟩

/-- what is carried along -/
structure PastS where
  last : Nat
  pict : Bool
  joined : Bool
  odd : Bool

def pastV (p : PastS) : Value := .agg #[.int .u8 (p.last : Int), .bool p.pict, .bool p.joined, .bool p.odd]

def withS (p : PastS) (c : Nat) : PastS := ⟨c, decide (c = 13) || (p.pict && decide (c = 4)), p.pict && decide (c = 5), decide (c = 6) && !p.odd⟩

theorem results_cell {P : Program} {fn : Func} {a : Nat} {t : TypeId} (h : fn.results = #[.cell a t]) (tmps : Array Value) (w : World) (ad : Addr) (v : Value) (ha : tmps.getD a undef = .pointer (some ad)) (hv : (loadVar t ad).run P w = .ok v w) :
    (results fn tmps).run P w = .ok v w := by
  have ha' : tmps[a]?.getD undef = .pointer (some ad) := by rw [← Array.getD_eq_getD_getElem?]; exact ha
  simp [results, h, asAddr, ha', hv]

theorem heap_more (w : World) (o : Obj) : w.heap.size < (w.alloc o).heap.size := by show w.heap.size < (w.heap.push o).size; simp
theorem heap_one (w : World) (o : Obj) : (w.alloc o).heap.size = w.heap.size + 1 := by show (w.heap.push o).size = _; simp

theorem past_new (w : World) (A : Obj) (l : Int) (b1 b2 b3 : Bool) : (loadVar 35 ⟨w.heap.size + 1, 0, none⟩).run Try.prog ((w.alloc A).alloc (.cells #[.int .u8 l, .bool b1, .bool b2, .bool b3] 35)) = .ok (.agg #[.int .u8 l, .bool b1, .bool b2, .bool b3]) ((w.alloc A).alloc (.cells #[.int .u8 l, .bool b1, .bool b2, .bool b3] 35)) := by
  have hg := heap_alloc_new (w.alloc A) (.cells #[.int .u8 l, .bool b1, .bool b2, .bool b3] 35)
  rw [heap_one] at hg
  exact run_loadVar_row _ _ _ _ _ _ _ hg Try.underlying35 rfl (by kernel_rfl)

set_option maxHeartbeats 4000000 in
set_option maxRecDepth 20000 in
theorem with_any (p : PastS) (c : Nat) (w : World) : Calls Try.prog 17 #[pastV p, .int .u8 (c : Int)] w fun e w' => e = .returned (pastV (withS p c)) ∧ Below w.heap.size w w' := by
  obtain ⟨l, pi, jo, od⟩ := p
  obtain ⟨R, hR⟩ : ∃ R, R = withS ⟨l, pi, jo, od⟩ c := ⟨_, rfl⟩
  have HR := Lib.hid hR
  rw [← hR]
  unfold pastV
  clear hR
  rcases (show c = 13 ∨ c = 4 ∨ c = 5 ∨ c = 6 ∨ (c ≠ 13 ∧ c ≠ 4 ∧ c ≠ 5 ∧ c ≠ 6) by omega) with rfl | rfl | rfl | rfl | ⟨h1, h2, h3, h4⟩
  · cases pi <;> cases od
    all_goals
      go_enter Try.func17, Try.ntmps17
      go_wp2_with fail
      refine bodyPost_ret (results_cell rfl _ _ ⟨w.heap.size + 1, 0, none⟩ _ rfl (past_new _ _ _ _ _ _)) rfl ?_
      exact ⟨by rw [HR.out]; simp [withS], ((Below.refl _ w).alloc (Nat.le_refl _) _).alloc (Nat.le_of_lt (heap_more _ _)) _⟩
  · cases pi <;> cases od
    all_goals
      go_enter Try.func17, Try.ntmps17
      go_wp2_with fail
      refine bodyPost_ret (results_cell rfl _ _ ⟨w.heap.size + 1, 0, none⟩ _ rfl (past_new _ _ _ _ _ _)) rfl ?_
      exact ⟨by rw [HR.out]; simp [withS], ((Below.refl _ w).alloc (Nat.le_refl _) _).alloc (Nat.le_of_lt (heap_more _ _)) _⟩
  · cases pi <;> cases od
    all_goals
      go_enter Try.func17, Try.ntmps17
      go_wp2_with fail
      refine bodyPost_ret (results_cell rfl _ _ ⟨w.heap.size + 1, 0, none⟩ _ rfl (past_new _ _ _ _ _ _)) rfl ?_
      exact ⟨by rw [HR.out]; simp [withS], ((Below.refl _ w).alloc (Nat.le_refl _) _).alloc (Nat.le_of_lt (heap_more _ _)) _⟩
  · cases pi <;> cases od
    all_goals
      go_enter Try.func17, Try.ntmps17
      go_wp2_with fail
      refine bodyPost_ret (results_cell rfl _ _ ⟨w.heap.size + 1, 0, none⟩ _ rfl (past_new _ _ _ _ _ _)) rfl ?_
      exact ⟨by rw [HR.out]; simp [withS], ((Below.refl _ w).alloc (Nat.le_refl _) _).alloc (Nat.le_of_lt (heap_more _ _)) _⟩
  · have b1 : ((c : Int) == 13) = false := by simp; omega
    have b2 : ((c : Int) == 4) = false := by simp; omega
    have b3 : ((c : Int) == 5) = false := by simp; omega
    have b4 : ((c : Int) == 6) = false := by simp; omega
    have HW : Hid (R = ⟨c, false, false, false⟩) := Lib.hid (by rw [HR.out]; simp [withS, h1, h2, h3, h4])
    clear h1 h2 h3 h4 HR
    cases pi <;> cases od
    all_goals
      go_enter Try.func17, Try.ntmps17
      go_wp2_with fail
      refine bodyPost_ret (results_cell rfl _ _ ⟨w.heap.size + 1, 0, none⟩ _ rfl (past_new _ _ _ _ _ _)) rfl ?_
      exact ⟨by rw [HW.out], ((Below.refl _ w).alloc (Nat.le_refl _) _).alloc (Nat.le_of_lt (heap_more _ _)) _⟩
end Go.Proofs.Ytjlencmoobanoaa
