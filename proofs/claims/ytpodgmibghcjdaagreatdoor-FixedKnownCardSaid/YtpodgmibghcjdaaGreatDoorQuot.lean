/-
  fixed.quotient with each of its two closures; floored, rounded.
-/
import Derived.Test.YtpodgmibghcjdaaGreatDoorWords
import Derived.Test.YtpodgmibghcjdaaGreatDoorSign
import Derived.WalkKit
import Derived.Deep.QuietTactic
import Derived.BigQuiet
import Derived.WalkLawsBesides
import Derived.Outline
import Derived.Laws.Pointers
namespace Go.Proofs.YtpodgmibghcjdaaGreatDoor
open Go Go.RowKit

/-- all old cells and all old marks read as before -/
theorem bcell {B : Nat} {W w1 : World} (hb : Below B W w1) : (∀ b o, b < B → w1.cell? ⟨b, o, none⟩ = W.cell? ⟨b, o, none⟩) ∧ (∀ b o, b < B → w1.frozen? ⟨b, o, none⟩ = W.frozen? ⟨b, o, none⟩) :=
  ⟨fun b o h => hb.cell (p := ⟨b, o, none⟩) h, fun b o h => hb.frozen (p := ⟨b, o, none⟩) h⟩

theorem hmf (fn : Fn) (first cap : Array Value) (w : World) : (Instr.makeFunc fn first cap).run Tryz.prog w = .ok (.func fn first cap) w := rfl

/-- how fixed.number ends -/
def endQ (n : Nat) (below : Bool) : Ending :=
  if (if below then 9223372036854775808 else 9223372036854775807) < n then gone 10 else .returned (.int .i64 (if below then -(n : Int) else n))

/-- the quotient of the sizes, or one more -/
def cutQ (a b c : Int) (m : Nat → Bool) : Nat :=
  if m (a.natAbs * b.natAbs % c.natAbs) then a.natAbs * b.natAbs / c.natAbs + 1 else a.natAbs * b.natAbs / c.natAbs

theorem number_any (h l : Nat) (hl : l < 18446744073709551616) (below : Bool) (w : World) :
    Calls Tryz.prog 33 #[.agg #[.int .u64 (h : Int), .int .u64 (l : Int)], .bool below] w fun e w' => e = endQ (h * 18446744073709551616 + l) below ∧ Below w.heap.size w w' := by
  unfold endQ
  by_cases hc : (if below = true then 9223372036854775808 else 9223372036854775807) < h * 18446744073709551616 + l
  · rw [if_pos hc]
    refine number_bad h l below ?_ w
    cases below <;> simp at hc ⊢ <;> omega
  · rw [if_neg hc]
    obtain rfl : h = 0 := by cases below <;> simp at hc <;> omega
    rw [Nat.zero_mul, Nat.zero_add] at hc ⊢
    exact number_ok l below (by omega) w

theorem floored1_any (r : Nat) (p : Addr) (bl : Bool) (w : World) (hp : w.cell? p = some (.bool bl)) :
    Calls Tryz.prog 45 #[.int .u64 r, .pointer (some p)] w fun e w' => e = .returned (.bool (bl && r != 0)) ∧ w = w' := by
  cases bl
  · go_enter Tryz.func45, Tryz.ntmps45
    go_wp2
    go_ret
    exact ⟨rfl, rfl⟩
  · go_enter Tryz.func45, Tryz.ntmps45
    go_wp2
    go_ret
    refine ⟨?_, rfl⟩
    have : ((r : Int) != 0) = (true && r != 0) := by
      cases r <;> simp <;> omega
    rw [← this]; rfl

theorem rounded1_any (r d : Nat) (hr : r < d) (hd : d < 18446744073709551616) (p : Addr) (w : World) (hp : w.cell? p = some (.int .u64 d)) :
    Calls Tryz.prog 44 #[.int .u64 r, .pointer (some p)] w fun e w' => e = .returned (.bool (decide (d ≤ 2 * r))) ∧ w = w' := by
  have h1 : (r : Int) ≤ d := by omega
  go_enter Tryz.func44, Tryz.ntmps44
  go_wp2
  go_ret
  refine ⟨?_, rfl⟩
  have : decide ((d : Int) - r ≤ r) = decide (d ≤ 2 * r) := by
    congr 1; apply propext; omega
  rw [← this]; rfl

theorem over_x (x d : Nat) (hx : x ≤ 9223372036854775808 * 9223372036854775808) (hd : d ≤ 9223372036854775808) (h0 : 0 < d) (w : World) :
    Calls Tryz.prog 67 #[agg2 (x / 18446744073709551616) (x % 18446744073709551616), .int .u64 d] w fun e w' =>
      (∃ h l : Nat, e = .returned (.tuple #[.agg #[.int .u64 (h : Int), .int .u64 (l : Int)], .int .u64 ((x % d : Nat) : Int)]) ∧ l < 18446744073709551616 ∧ h * 18446744073709551616 + l = x / d) ∧ Below w.heap.size w w' := by
  have h := over_words x d h0
  refine (over_any _ _ d (by omega) (by omega) (by omega) h0 w).mono ?_
  rintro e w' ⟨rfl, hb⟩
  exact ⟨⟨_, _, by rw [h.2.1]; rfl, h.2.2, h.1⟩, hb⟩

theorem plus_q (h l : Nat) (hh : h ≤ 9223372036854775808) (hl : l < 18446744073709551616) (w : World) :
    Calls Tryz.prog 31 #[.agg #[.int .u64 (h : Int), .int .u64 (l : Int)], .int .u64 1] w fun e w' =>
      (∃ h' l' : Nat, e = .returned (.agg #[.int .u64 (h' : Int), .int .u64 (l' : Int)]) ∧ l' < 18446744073709551616 ∧ h' * 18446744073709551616 + l' = h * 18446744073709551616 + l + 1) ∧ Below w.heap.size w w' := by
  refine (plus_any h l 1 (by omega) (by omega) (by omega) w).mono ?_
  rintro e w' ⟨rfl, hb⟩
  exact ⟨⟨_, _, rfl, by omega, by omega⟩, hb⟩

set_option maxHeartbeats 1000000 in
theorem quotient_floored (a b c : Int) (ha : I64 a) (hb : I64 b) (hc : I64 c) (hc0 : c ≠ 0) (p : Addr) (bl : Bool) (w : World) (hp : w.cell? p = some (.bool bl)) :
    Calls Tryz.prog 43 #[.int .i64 a, .int .i64 b, .int .i64 c, .func (.func 45) #[] #[.pointer (some p)]] w fun e w' =>
      e = endQ (cutQ a b c (fun r => bl && r != 0)) (neg3 a b c) ∧ Below w.heap.size w w' := by
  have hpb : p.block < w.heap.size := World.block_lt_of_cell? w p hp
  obtain ⟨ha1, ha2⟩ := ha
  obtain ⟨hb1, hb2⟩ := hb
  obtain ⟨hc1, hc2⟩ := hc
  have hcb : (c == 0) = false := by simp [hc0]
  have hx3 := xor3_neg a b c ⟨ha1, ha2⟩ ⟨hb1, hb2⟩ ⟨hc1, hc2⟩
  obtain ⟨X, hX⟩ : ∃ X, bits .xor .i64 (bits .xor .i64 a b) c = X := ⟨_, rfl⟩
  have hbool : decide (X < 0) = neg3 a b c := by rw [← hX]; cases h : neg3 a b c <;> simp [h] at hx3 ⊢ <;> omega
  have hA : a.natAbs ≤ 9223372036854775808 := by omega
  have hB : b.natAbs ≤ 9223372036854775808 := by omega
  have hC : c.natAbs ≤ 9223372036854775808 := by omega
  have hC0 : 0 < c.natAbs := by omega
  have hAB : a.natAbs * b.natAbs ≤ 9223372036854775808 * 9223372036854775808 := Nat.mul_le_mul hA hB
  obtain ⟨E, hE⟩ : ∃ E, E = endQ (cutQ a b c (fun r => bl && r != 0)) (neg3 a b c) := ⟨_, rfl⟩
  rw [← hE]
  unfold cutQ at hE
  simp only [] at hE
  generalize hna : neg3 a b c = N at *
  clear hx3 hna
  have HN : Hid (decide (X < 0) = N) := Lib.hid hbool
  clear hbool
  have HE := Lib.hid hE
  clear hE
  go_enter Tryz.func43, Tryz.ntmps43
  go_wp2_with (go_at_call 21; refine (magnitude_any _ (by assumption) (by assumption) _).mono ?_; rintro e w' ⟨rfl, rfl⟩)
  generalize a.natAbs = A at *
  generalize b.natAbs = B at *
  obtain ⟨x, hx⟩ : ∃ x, x = A * B := ⟨_, rfl⟩
  have HX := Lib.hid hx
  refine (product_any A B (by omega) (by omega) _).mono ?_
  rintro e w1 ⟨rfl, hb1⟩
  have hE := HE.out
  rw [← hx] at hAB hE ⊢
  clear hx HE
  have HE := Lib.hid hE
  clear hE
  have hp1 : w1.cell? p = some (.bool bl) := by rw [hb1.cell hpb]; exact hp
  have hz1 := hb1.size
  go_wp2_with (go_at_call 21; refine (magnitude_any _ (by assumption) (by assumption) _).mono ?_; rintro e w' ⟨rfl, rfl⟩)
  generalize c.natAbs = D at *
  refine (over_x x D hAB hC hC0 _).mono ?_
  rintro e w2 ⟨⟨h, l, rfl, hl, hQ⟩, hb2⟩
  have hp2 : w2.cell? p = some (.bool bl) := by rw [hb2.cell (by omega)]; exact hp1
  have hz2 := hb2.size
  have hq : x / D ≤ x := Nat.div_le_self _ _
  have hr : x % D < D := Nat.mod_lt _ hC0
  generalize x / D = q at *
  generalize x % D = r at *
  have hh : h ≤ 9223372036854775808 := by omega
  have HQ := Lib.hid hQ
  clear hQ hq
  go_wp2_with fail
  refine (floored1_any r p bl _ (by rw [World.cell?_alloc_old _ _ _ (by omega)]; exact hp2)).mono ?_
  rintro e w3 ⟨rfl, rfl⟩
  have B2 : Below w.heap.size w w2 := hb1.trans (hb2.mono hz1)
  have B3 := fun o => B2.alloc (Nat.le_trans hz1 hz2) o
  cases hm : (bl && r != 0)
  · go_wp2_with fail
    rw [HN.out]
    refine (number_any h l hl N _).mono ?_
    rintro e w9 ⟨he, hb9⟩
    rw [HQ.out] at he
    unfold endQ gone at he
    by_cases hbig : (if N = true then 9223372036854775808 else 9223372036854775807) < q
    · simp only [if_pos hbig] at he
      subst he
      have HB := Lib.hid hbig
      clear hbig
      go_wp2_with fail
      exact ⟨rfl, by rw [HE.out]; simp only [hm, Bool.false_eq_true, if_false]; exact (if_pos HB.out).symm, (B3 _).trans (hb9.mono (by simp; omega))⟩
    · simp only [if_neg hbig] at he
      generalize hv : (if N = true then -((q : Nat) : Int) else ((q : Nat) : Int)) = v at he
      subst he
      have HV := Lib.hid hv
      clear hv
      have HB := Lib.hid hbig
      clear hbig
      go_wp2_with fail
      go_ret
      exact ⟨by rw [HE.out]; simp only [hm, Bool.false_eq_true, if_false]; unfold endQ; rw [if_neg HB.out, HV.out]; rfl, (B3 _).trans (hb9.mono (by simp; omega))⟩
  · go_wp2_with fail
    refine (plus_q h l hh hl _).mono ?_
    rintro e w3 ⟨⟨h', l', rfl, hl', hQ'⟩, hb3⟩
    have HQ' : Hid (h' * 18446744073709551616 + l' = q + 1) := Lib.hid (by rw [hQ', HQ.out])
    clear hQ'
    have B4 : Below w.heap.size w w3 := (B3 _).trans (hb3.mono (by simp; omega))
    obtain ⟨hc3, hf3⟩ := bcell hb3
    have hz3 := hb3.size
    have hz4 : w2.heap.size + 1 ≤ w3.heap.size := by simpa using hz3
    clear hz3
    go_wp2_with fail
    rw [HN.out]
    refine (number_any h' l' hl' N _).mono ?_
    rintro e w9 ⟨he, hb9⟩
    rw [HQ'.out] at he
    unfold endQ gone at he
    by_cases hbig : (if N = true then 9223372036854775808 else 9223372036854775807) < (q + 1)
    · simp only [if_pos hbig] at he
      subst he
      have HB := Lib.hid hbig
      clear hbig
      go_wp2_with fail
      exact ⟨rfl, by rw [HE.out]; simp only [hm, if_true]; exact (if_pos HB.out).symm, ((B4.setCell (by simp; omega) _).setCell (by simp; omega) _).trans (hb9.mono (by simp; omega))⟩
    · simp only [if_neg hbig] at he
      generalize hv : (if N = true then -(((q + 1) : Nat) : Int) else (((q + 1) : Nat) : Int)) = v at he
      subst he
      have HV := Lib.hid hv
      clear hv
      have HB := Lib.hid hbig
      clear hbig
      go_wp2_with fail
      go_ret
      exact ⟨by rw [HE.out]; simp only [hm, if_true]; unfold endQ; rw [if_neg HB.out, HV.out]; rfl, ((B4.setCell (by simp; omega) _).setCell (by simp; omega) _).trans (hb9.mono (by simp; omega))⟩

set_option maxHeartbeats 1000000 in
theorem quotient_rounded (a b c : Int) (ha : I64 a) (hb : I64 b) (hc : I64 c) (hc0 : c ≠ 0) (p : Addr) (d : Nat) (hd : Hid (d = c.natAbs)) (w : World) (hp : w.cell? p = some (.int .u64 (d : Int))) :
    Calls Tryz.prog 43 #[.int .i64 a, .int .i64 b, .int .i64 c, .func (.func 44) #[] #[.pointer (some p)]] w fun e w' =>
      e = endQ (cutQ a b c (fun r => decide (d ≤ 2 * r))) (neg3 a b c) ∧ Below w.heap.size w w' := by
  have hpb : p.block < w.heap.size := World.block_lt_of_cell? w p hp
  obtain ⟨ha1, ha2⟩ := ha
  obtain ⟨hb1, hb2⟩ := hb
  obtain ⟨hc1, hc2⟩ := hc
  have hcb : (c == 0) = false := by simp [hc0]
  have hx3 := xor3_neg a b c ⟨ha1, ha2⟩ ⟨hb1, hb2⟩ ⟨hc1, hc2⟩
  obtain ⟨X, hX⟩ : ∃ X, bits .xor .i64 (bits .xor .i64 a b) c = X := ⟨_, rfl⟩
  have hbool : decide (X < 0) = neg3 a b c := by rw [← hX]; cases h : neg3 a b c <;> simp [h] at hx3 ⊢ <;> omega
  have hA : a.natAbs ≤ 9223372036854775808 := by omega
  have hB : b.natAbs ≤ 9223372036854775808 := by omega
  have hC : c.natAbs ≤ 9223372036854775808 := by omega
  have hC0 : 0 < c.natAbs := by omega
  have hAB : a.natAbs * b.natAbs ≤ 9223372036854775808 * 9223372036854775808 := Nat.mul_le_mul hA hB
  obtain ⟨E, hE⟩ : ∃ E, E = endQ (cutQ a b c (fun r => decide (d ≤ 2 * r))) (neg3 a b c) := ⟨_, rfl⟩
  rw [← hE]
  unfold cutQ at hE
  simp only [] at hE
  generalize hna : neg3 a b c = N at *
  clear hx3 hna
  have HN : Hid (decide (X < 0) = N) := Lib.hid hbool
  clear hbool
  have HE := Lib.hid hE
  clear hE
  go_enter Tryz.func43, Tryz.ntmps43
  go_wp2_with (go_at_call 21; refine (magnitude_any _ (by assumption) (by assumption) _).mono ?_; rintro e w' ⟨rfl, rfl⟩)
  generalize a.natAbs = A at *
  generalize b.natAbs = B at *
  obtain ⟨x, hx⟩ : ∃ x, x = A * B := ⟨_, rfl⟩
  have HX := Lib.hid hx
  refine (product_any A B (by omega) (by omega) _).mono ?_
  rintro e w1 ⟨rfl, hb1⟩
  have hE := HE.out
  rw [← hx] at hAB hE ⊢
  clear hx HE
  have HE := Lib.hid hE
  clear hE
  have hp1 : w1.cell? p = some (.int .u64 (d : Int)) := by rw [hb1.cell hpb]; exact hp
  have hz1 := hb1.size
  go_wp2_with (go_at_call 21; refine (magnitude_any _ (by assumption) (by assumption) _).mono ?_; rintro e w' ⟨rfl, rfl⟩)
  generalize c.natAbs = D at *
  refine (over_x x D hAB hC hC0 _).mono ?_
  rintro e w2 ⟨⟨h, l, rfl, hl, hQ⟩, hb2⟩
  have hp2 : w2.cell? p = some (.int .u64 (d : Int)) := by rw [hb2.cell (by omega)]; exact hp1
  have hz2 := hb2.size
  have hq : x / D ≤ x := Nat.div_le_self _ _
  have hr : x % D < D := Nat.mod_lt _ hC0
  generalize x / D = q at *
  generalize x % D = r at *
  have hh : h ≤ 9223372036854775808 := by omega
  have HQ := Lib.hid hQ
  clear hQ hq
  go_wp2_with fail
  refine (rounded1_any r d (by rw [hd.out]; exact hr) (by rw [hd.out]; omega) p _ (by rw [World.cell?_alloc_old _ _ _ (by omega)]; exact hp2)).mono ?_
  rintro e w3 ⟨rfl, rfl⟩
  have B2 : Below w.heap.size w w2 := hb1.trans (hb2.mono hz1)
  have B3 := fun o => B2.alloc (Nat.le_trans hz1 hz2) o
  cases hm : (decide (d ≤ 2 * r))
  · go_wp2_with fail
    rw [HN.out]
    refine (number_any h l hl N _).mono ?_
    rintro e w9 ⟨he, hb9⟩
    rw [HQ.out] at he
    unfold endQ gone at he
    by_cases hbig : (if N = true then 9223372036854775808 else 9223372036854775807) < q
    · simp only [if_pos hbig] at he
      subst he
      have HB := Lib.hid hbig
      clear hbig
      go_wp2_with fail
      exact ⟨rfl, by rw [HE.out]; simp only [hm, Bool.false_eq_true, if_false]; exact (if_pos HB.out).symm, (B3 _).trans (hb9.mono (by simp; omega))⟩
    · simp only [if_neg hbig] at he
      generalize hv : (if N = true then -((q : Nat) : Int) else ((q : Nat) : Int)) = v at he
      subst he
      have HV := Lib.hid hv
      clear hv
      have HB := Lib.hid hbig
      clear hbig
      go_wp2_with fail
      go_ret
      exact ⟨by rw [HE.out]; simp only [hm, Bool.false_eq_true, if_false]; unfold endQ; rw [if_neg HB.out, HV.out]; rfl, (B3 _).trans (hb9.mono (by simp; omega))⟩
  · go_wp2_with fail
    refine (plus_q h l hh hl _).mono ?_
    rintro e w3 ⟨⟨h', l', rfl, hl', hQ'⟩, hb3⟩
    have HQ' : Hid (h' * 18446744073709551616 + l' = q + 1) := Lib.hid (by rw [hQ', HQ.out])
    clear hQ'
    have B4 : Below w.heap.size w w3 := (B3 _).trans (hb3.mono (by simp; omega))
    obtain ⟨hc3, hf3⟩ := bcell hb3
    have hz3 := hb3.size
    have hz4 : w2.heap.size + 1 ≤ w3.heap.size := by simpa using hz3
    clear hz3
    go_wp2_with fail
    rw [HN.out]
    refine (number_any h' l' hl' N _).mono ?_
    rintro e w9 ⟨he, hb9⟩
    rw [HQ'.out] at he
    unfold endQ gone at he
    by_cases hbig : (if N = true then 9223372036854775808 else 9223372036854775807) < (q + 1)
    · simp only [if_pos hbig] at he
      subst he
      have HB := Lib.hid hbig
      clear hbig
      go_wp2_with fail
      exact ⟨rfl, by rw [HE.out]; simp only [hm, if_true]; exact (if_pos HB.out).symm, ((B4.setCell (by simp; omega) _).setCell (by simp; omega) _).trans (hb9.mono (by simp; omega))⟩
    · simp only [if_neg hbig] at he
      generalize hv : (if N = true then -(((q + 1) : Nat) : Int) else (((q + 1) : Nat) : Int)) = v at he
      subst he
      have HV := Lib.hid hv
      clear hv
      have HB := Lib.hid hbig
      clear hbig
      go_wp2_with fail
      go_ret
      exact ⟨by rw [HE.out]; simp only [hm, if_true]; unfold endQ; rw [if_neg HB.out, HV.out]; rfl, ((B4.setCell (by simp; omega) _).setCell (by simp; omega) _).trans (hb9.mono (by simp; omega))⟩

theorem quotient_zero (a b : Int) (f : Value) (w : World) :
    Calls Tryz.prog 43 #[.int .i64 a, .int .i64 b, .int .i64 0, f] w fun e w' => e = gone 2 ∧ w' = w := by
  unfold gone
  go_enter Tryz.func43, Tryz.ntmps43
  go_wp2
  exact ⟨rfl, rfl, rfl⟩

/-- how floored and rounded end -/
def floorE (a b c : Int) : Ending := if c = 0 then gone 2 else endQ (cutQ a b c fun r => neg3 a b c && r != 0) (neg3 a b c)
def roundE (a b c : Int) : Ending := if c = 0 then gone 2 else endQ (cutQ a b c fun r => decide (c.natAbs ≤ 2 * r)) (neg3 a b c)

theorem endQ_cases (n : Nat) (below : Bool) : endQ n below = gone 10 ∨ ∃ v : Int, endQ n below = .returned (.int .i64 v) := by
  unfold endQ
  by_cases h : (if below = true then 9223372036854775808 else 9223372036854775807) < n
  · exact .inl (if_pos h)
  · exact .inr ⟨_, if_neg h⟩

theorem floored_any (a b c : Int) (ha : I64 a) (hb : I64 b) (hc : I64 c) (w : World) :
    Calls Tryz.prog 19 #[.int .i64 a, .int .i64 b, .int .i64 c] w fun e w' => e = floorE a b c ∧ Below w.heap.size w w' := by
  have hx3 := xor3_neg a b c ha hb hc
  obtain ⟨X, hX⟩ : ∃ X, bits .xor .i64 (bits .xor .i64 a b) c = X := ⟨_, rfl⟩
  have hbool : decide (X < 0) = neg3 a b c := by rw [← hX]; cases h : neg3 a b c <;> simp [h] at hx3 ⊢ <;> omega
  clear hx3
  have hm := hmf
  by_cases hc0 : c = 0
  · subst hc0
    unfold floorE gone
    go_enter Tryz.func19, Tryz.ntmps19
    go_wp2_with fail
    refine (quotient_zero _ _ _ _).mono ?_
    unfold gone
    rintro e w' ⟨rfl, rfl⟩
    go_wp2_with fail
    exact ⟨rfl, rfl, (Below.refl _ _).alloc (Nat.le_refl _) _⟩
  · have hq := fun p w => quotient_floored a b c ha hb hc hc0 p (neg3 a b c) w
    obtain ⟨E, hE⟩ : ∃ E, E = floorE a b c := ⟨_, rfl⟩
    rw [← hE]
    have hcases := endQ_cases (cutQ a b c fun r => neg3 a b c && r != 0) (neg3 a b c)
    have hE2 : endQ (cutQ a b c fun r => neg3 a b c && r != 0) (neg3 a b c) = E := by rw [hE, floorE, if_neg hc0]
    rw [hE2] at hcases
    simp only [hE2] at hq
    have HQ := Lib.hid hq
    have HB := Lib.hid hbool
    have HC := Lib.hid hcases
    clear hq hbool hcases hE hE2 hc0
    go_enter Tryz.func19, Tryz.ntmps19
    go_wp2_with fail
    rw [HB.out]
    refine (HQ.out _ _ (by simp)).mono ?_
    rintro e w' ⟨rfl, hb'⟩
    rcases HC.out with h | ⟨v, h⟩
    · unfold gone at h
      subst h
      go_wp2_with fail
      exact ⟨rfl, rfl, ((Below.refl _ _).alloc (Nat.le_refl _) _).trans (hb'.mono (by simp))⟩
    · subst h
      go_wp2_with fail
      go_ret
      exact ⟨rfl, ((Below.refl _ _).alloc (Nat.le_refl _) _).trans (hb'.mono (by simp))⟩

theorem rounded_any (a b c : Int) (ha : I64 a) (hb : I64 b) (hc : I64 c) (w : World) :
    Calls Tryz.prog 17 #[.int .i64 a, .int .i64 b, .int .i64 c] w fun e w' => e = roundE a b c ∧ Below w.heap.size w w' := by
  have hm := hmf
  by_cases hc0 : c = 0
  · subst hc0
    unfold roundE gone
    go_enter Tryz.func17, Tryz.ntmps17
    go_wp2_with (go_at_call 21; refine (magnitude_any _ (by decide) (by decide) _).mono ?_; rintro e w' ⟨rfl, rfl⟩)
    refine (quotient_zero _ _ _ _).mono ?_
    unfold gone
    rintro e w' ⟨rfl, rfl⟩
    go_wp2_with fail
    exact ⟨rfl, rfl, (Below.refl _ _).alloc (Nat.le_refl _) _⟩
  · have hq := fun p w => quotient_rounded a b c ha hb hc hc0 p c.natAbs (Lib.hid rfl) w
    obtain ⟨E, hE⟩ : ∃ E, E = roundE a b c := ⟨_, rfl⟩
    rw [← hE]
    have hcases := endQ_cases (cutQ a b c fun r => decide (c.natAbs ≤ 2 * r)) (neg3 a b c)
    have hE2 : endQ (cutQ a b c fun r => decide (c.natAbs ≤ 2 * r)) (neg3 a b c) = E := by rw [hE, roundE, if_neg hc0]
    rw [hE2] at hcases
    simp only [hE2] at hq
    have HQ := Lib.hid hq
    have HC := Lib.hid hcases
    clear hq hcases hE hE2 hc0
    go_enter Tryz.func17, Tryz.ntmps17
    go_wp2_with (go_at_call 21; refine (magnitude_any _ hc.1 hc.2 _).mono ?_; rintro e w' ⟨rfl, rfl⟩)
    refine (HQ.out _ _ (by simp)).mono ?_
    rintro e w' ⟨rfl, hb'⟩
    rcases HC.out with h | ⟨v, h⟩
    · unfold gone at h
      subst h
      go_wp2_with fail
      exact ⟨rfl, rfl, ((Below.refl _ _).alloc (Nat.le_refl _) _).trans (hb'.mono (by simp))⟩
    · subst h
      go_wp2_with fail
      go_ret
      exact ⟨rfl, ((Below.refl _ _).alloc (Nat.le_refl _) _).trans (hb'.mono (by simp))⟩
end Go.Proofs.YtpodgmibghcjdaaGreatDoor
