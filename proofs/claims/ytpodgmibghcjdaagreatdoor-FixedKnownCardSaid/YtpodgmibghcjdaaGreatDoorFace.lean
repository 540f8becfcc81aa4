/-
  The faces Add, Sub, MulDiv, Round: a deferred closure recovers what went wrong.
-/
import Derived.Test.YtpodgmibghcjdaaGreatDoorOut
import Derived.Test.YtpodgmibghcjdaaGreatDoorQuot
import Derived.WalkKit
import Derived.Defers
import Derived.Recover
import Derived.WalkLawsBesides
import Derived.Outline
import Derived.Laws.Pointers
namespace Go.Proofs.YtpodgmibghcjdaaGreatDoor
open Go Go.RowKit

/-- a number and an error's number -/
def pair (n k : Int) : Ending := .returned (.tuple #[.int .i64 n, .int .i64 k])

/-- what a face tells of how its work ended -/
def told : Ending → Ending
  | .returned (.int _ v) => pair v 0
  | .panicked ({ v := .iface _ (.int _ k), .. } :: _) => pair 0 k
  | _ => pair 0 0

theorem told_gone (k : Int) : told (gone k) = pair 0 k := rfl
theorem told_num (v : Int) : told (.returned (.int .i64 v)) = pair v 0 := rfl

theorem floorE_cases (a b c : Int) : floorE a b c = gone 2 ∨ floorE a b c = gone 10 ∨ ∃ v : Int, floorE a b c = .returned (.int .i64 v) := by
  unfold floorE
  by_cases h : c = 0
  · exact .inl (if_pos h)
  · rw [if_neg h]; exact .inr (endQ_cases _ _)

theorem roundE_cases (a b c : Int) : roundE a b c = gone 2 ∨ roundE a b c = gone 10 ∨ ∃ v : Int, roundE a b c = .returned (.int .i64 v) := by
  unfold roundE
  by_cases h : c = 0
  · exact .inl (if_pos h)
  · rw [if_neg h]; exact .inr (endQ_cases _ _)

theorem blk_ne (w : World) : (⟨w.heap.size, 0, none⟩ : Addr) ≠ ⟨w.heap.size + 1, 0, none⟩ := by
  intro h; injection h with h1; omega

/-- the world at the door, of a face whose two results lie in new variables -/
theorem door_ok (w w1 : World) (O1 O2 : Obj) (hb : Below (w.heap.size + 2) ((w.alloc O1).alloc O2) w1) : Below w.heap.size w w1 :=
  (((Below.refl _ _).alloc (Nat.le_refl _) _).alloc (by simp) _).trans (hb.mono (by omega))

set_option maxRecDepth 100000 in
theorem MulDiv_any (a b c : Int) (ha : I64 a) (hb : I64 b) (hc : I64 c) (w : World) :
    Calls Tryz.prog 5 #[.int .i64 a, .int .i64 b, .int .i64 c] w fun e w' => e = told (floorE a b c) ∧ Below w.heap.size w w' := by
  have hcases := floorE_cases a b c
  have hw := fun w => floored_any a b c ha hb hc w
  generalize floorE a b c = E at *
  have HC := Lib.hid hcases
  have HW := Lib.hid hw
  clear hcases hw
  have hm := hmf
  go_enter_defers Tryz.func5, Tryz.ntmps5
  go_wp2_with fail
  refine (HW.out _).mono ?_
  rintro e w1 ⟨rfl, hb1⟩
  obtain ⟨hc1, hf1⟩ := bcell hb1
  have hcP : w1.cell? ⟨w.heap.size, 0, none⟩ = some (.int .i64 0) := by rw [hc1 _ _ (by simp; omega)]; simp
  have hcQ : w1.cell? ⟨w.heap.size + 1, 0, none⟩ = some (.int .i64 0) := by rw [hc1 _ _ (by simp)]; simp [go_sem]
  have hfP : w1.frozen? ⟨w.heap.size, 0, none⟩ = false := by rw [hf1 _ _ (by simp; omega)]; simp [go_sem]
  have hfQ : w1.frozen? ⟨w.heap.size + 1, 0, none⟩ = false := by rw [hf1 _ _ (by simp)]; simp [go_sem]
  clear hc1 hf1
  have hz1 : w.heap.size + 1 < w1.heap.size := by have := hb1.size; simp at this; omega
  rcases HC.out with h | h | ⟨v, h⟩
  · unfold gone at h
    subst h
    go_wp2_with fail
    refine leaves_cons (f := 18) (args := #[.pointer (some ⟨w.heap.size, 0, none⟩), .pointer (some ⟨w.heap.size + 1, 0, none⟩)]) (by simp) (by simp [go_sem]) ?_
    refine (out_caught _ 18 Tryz.f18 Tryz.func18 rfl rfl rfl w.heap.size ⟨w.heap.size, 0, none⟩ ⟨w.heap.size + 1, 0, none⟩ 0 2 [] (.int .i64 0) _ hcP hcQ (by simp) (by simp) (blk_ne w) hfP hfQ).mono ?_
    rintro e u' w'' ⟨rfl, rfl, hl⟩
    obtain ⟨hb2, _, hp2, hq2⟩ := hl
    simp [Leaves, settle, results, Tryz.results5, go_sem, hp2, hq2]
    exact ⟨rfl, (door_ok w w1 _ _ (hb1.mono (by simp))).trans hb2⟩
  · unfold gone at h
    subst h
    go_wp2_with fail
    refine leaves_cons (f := 18) (args := #[.pointer (some ⟨w.heap.size, 0, none⟩), .pointer (some ⟨w.heap.size + 1, 0, none⟩)]) (by simp) (by simp [go_sem]) ?_
    refine (out_caught _ 18 Tryz.f18 Tryz.func18 rfl rfl rfl w.heap.size ⟨w.heap.size, 0, none⟩ ⟨w.heap.size + 1, 0, none⟩ 0 10 [] (.int .i64 0) _ hcP hcQ (by simp) (by simp) (blk_ne w) hfP hfQ).mono ?_
    rintro e u' w'' ⟨rfl, rfl, hl⟩
    obtain ⟨hb2, _, hp2, hq2⟩ := hl
    simp [Leaves, settle, results, Tryz.results5, go_sem, hp2, hq2]
    exact ⟨rfl, (door_ok w w1 _ _ (hb1.mono (by simp))).trans hb2⟩
  · subst h
    go_wp2_with fail
    refine leaves_cons (f := 18) (args := #[.pointer (some ⟨w.heap.size, 0, none⟩), .pointer (some ⟨w.heap.size + 1, 0, none⟩)]) (by simp) (by simp [go_sem]) ?_
    have hb3 := ((door_ok w w1 _ _ (hb1.mono (by simp))).setCell (p := ⟨w.heap.size, 0, none⟩) (Nat.le_refl _) (.int .i64 v)).setCell (p := ⟨w.heap.size + 1, 0, none⟩) (by simp) (.int .i64 0)
    refine (out_idle _ 18 Tryz.f18 Tryz.func18 rfl rfl rfl w.heap.size ⟨w.heap.size, 0, none⟩ ⟨w.heap.size + 1, 0, none⟩ v (.int .i64 0) _ ?_ ?_ (by simp) (by simp) (blk_ne w) (by simp [hfP]) (by simp [hfQ])).mono ?_
    · rw [World.cell?_setCell_other _ _ _ _ (fun h => blk_ne w h.symm)]; exact World.cell?_setCell_same _ _ _ hcP
    · exact World.cell?_setCell_same _ _ _ (by rw [World.cell?_setCell_other _ _ _ _ (blk_ne w)]; exact hcQ)
    rintro e u' w'' ⟨rfl, rfl, hl⟩
    obtain ⟨hb2, _, hp2, hq2⟩ := hl
    simp [Leaves, settle, results, Tryz.results5, go_sem, hp2, hq2]
    exact ⟨rfl, hb3.trans hb2⟩

set_option maxRecDepth 100000 in
theorem Round_any (a b c : Int) (ha : I64 a) (hb : I64 b) (hc : I64 c) (w : World) :
    Calls Tryz.prog 4 #[.int .i64 a, .int .i64 b, .int .i64 c] w fun e w' => e = told (roundE a b c) ∧ Below w.heap.size w w' := by
  have hcases := roundE_cases a b c
  have hw := fun w => rounded_any a b c ha hb hc w
  generalize roundE a b c = E at *
  have HC := Lib.hid hcases
  have HW := Lib.hid hw
  clear hcases hw
  have hm := hmf
  go_enter_defers Tryz.func4, Tryz.ntmps4
  go_wp2_with fail
  refine (HW.out _).mono ?_
  rintro e w1 ⟨rfl, hb1⟩
  obtain ⟨hc1, hf1⟩ := bcell hb1
  have hcP : w1.cell? ⟨w.heap.size, 0, none⟩ = some (.int .i64 0) := by rw [hc1 _ _ (by simp; omega)]; simp
  have hcQ : w1.cell? ⟨w.heap.size + 1, 0, none⟩ = some (.int .i64 0) := by rw [hc1 _ _ (by simp)]; simp [go_sem]
  have hfP : w1.frozen? ⟨w.heap.size, 0, none⟩ = false := by rw [hf1 _ _ (by simp; omega)]; simp [go_sem]
  have hfQ : w1.frozen? ⟨w.heap.size + 1, 0, none⟩ = false := by rw [hf1 _ _ (by simp)]; simp [go_sem]
  clear hc1 hf1
  have hz1 : w.heap.size + 1 < w1.heap.size := by have := hb1.size; simp at this; omega
  rcases HC.out with h | h | ⟨v, h⟩
  · unfold gone at h
    subst h
    go_wp2_with fail
    refine leaves_cons (f := 15) (args := #[.pointer (some ⟨w.heap.size, 0, none⟩), .pointer (some ⟨w.heap.size + 1, 0, none⟩)]) (by simp) (by simp [go_sem]) ?_
    refine (out_caught _ 15 Tryz.f15 Tryz.func15 rfl rfl rfl w.heap.size ⟨w.heap.size, 0, none⟩ ⟨w.heap.size + 1, 0, none⟩ 0 2 [] (.int .i64 0) _ hcP hcQ (by simp) (by simp) (blk_ne w) hfP hfQ).mono ?_
    rintro e u' w'' ⟨rfl, rfl, hl⟩
    obtain ⟨hb2, _, hp2, hq2⟩ := hl
    simp [Leaves, settle, results, Tryz.results4, go_sem, hp2, hq2]
    exact ⟨rfl, (door_ok w w1 _ _ (hb1.mono (by simp))).trans hb2⟩
  · unfold gone at h
    subst h
    go_wp2_with fail
    refine leaves_cons (f := 15) (args := #[.pointer (some ⟨w.heap.size, 0, none⟩), .pointer (some ⟨w.heap.size + 1, 0, none⟩)]) (by simp) (by simp [go_sem]) ?_
    refine (out_caught _ 15 Tryz.f15 Tryz.func15 rfl rfl rfl w.heap.size ⟨w.heap.size, 0, none⟩ ⟨w.heap.size + 1, 0, none⟩ 0 10 [] (.int .i64 0) _ hcP hcQ (by simp) (by simp) (blk_ne w) hfP hfQ).mono ?_
    rintro e u' w'' ⟨rfl, rfl, hl⟩
    obtain ⟨hb2, _, hp2, hq2⟩ := hl
    simp [Leaves, settle, results, Tryz.results4, go_sem, hp2, hq2]
    exact ⟨rfl, (door_ok w w1 _ _ (hb1.mono (by simp))).trans hb2⟩
  · subst h
    go_wp2_with fail
    refine leaves_cons (f := 15) (args := #[.pointer (some ⟨w.heap.size, 0, none⟩), .pointer (some ⟨w.heap.size + 1, 0, none⟩)]) (by simp) (by simp [go_sem]) ?_
    have hb3 := ((door_ok w w1 _ _ (hb1.mono (by simp))).setCell (p := ⟨w.heap.size, 0, none⟩) (Nat.le_refl _) (.int .i64 v)).setCell (p := ⟨w.heap.size + 1, 0, none⟩) (by simp) (.int .i64 0)
    refine (out_idle _ 15 Tryz.f15 Tryz.func15 rfl rfl rfl w.heap.size ⟨w.heap.size, 0, none⟩ ⟨w.heap.size + 1, 0, none⟩ v (.int .i64 0) _ ?_ ?_ (by simp) (by simp) (blk_ne w) (by simp [hfP]) (by simp [hfQ])).mono ?_
    · rw [World.cell?_setCell_other _ _ _ _ (fun h => blk_ne w h.symm)]; exact World.cell?_setCell_same _ _ _ hcP
    · exact World.cell?_setCell_same _ _ _ (by rw [World.cell?_setCell_other _ _ _ _ (blk_ne w)]; exact hcQ)
    rintro e u' w'' ⟨rfl, rfl, hl⟩
    obtain ⟨hb2, _, hp2, hq2⟩ := hl
    simp [Leaves, settle, results, Tryz.results4, go_sem, hp2, hq2]
    exact ⟨rfl, hb3.trans hb2⟩

/-- how a sum ends -/
def sumE (n : Int) : Ending := if -9223372036854775808 ≤ n ∧ n ≤ 9223372036854775807 then pair n 0 else pair 0 10

set_option maxRecDepth 100000 in
theorem Add_any (a b : Int) (ha : I64 a) (hb : I64 b) (w : World) :
    Calls Tryz.prog 36 #[.int .i64 a, .int .i64 b] w fun e w' => e = sumE (a + b) ∧ Below w.heap.size w w' := by
  have hm := hmf
  obtain ⟨S, hS⟩ : ∃ S, wrap64 (a + b) = S := ⟨_, rfl⟩
  have hSr : I64 S := by rw [← hS]; unfold wrap64 I64; omega
  obtain ⟨X, hX⟩ : ∃ X, bits .and .i64 (bits .xor .i64 a S) (bits .xor .i64 b S) = X := ⟨_, rfl⟩
  have hXn : X < 0 ↔ ¬ I64 (a + b) := by
    rw [← hX, and_neg _ _ (xor_range _ _) (xor_range _ _), xor_neg _ _ ha hSr, xor_neg _ _ hb hSr]
    unfold I64 at *
    unfold wrap64 at hS
    omega
  obtain ⟨hSr1, hSr2⟩ := hSr
  by_cases h : I64 (a + b)
  · have hx : ¬ X < 0 := fun h' => hXn.1 h' h
    have hSS : S = a + b := by rw [← hS]; unfold wrap64; obtain ⟨h1, h2⟩ := h; omega
    have HSS := Lib.hid hSS
    have HE : Hid (sumE (a + b) = pair S 0) := Lib.hid (by unfold sumE; exact (if_pos h).trans (by rw [hSS]))
    clear hSS hXn h
    obtain ⟨ha1, ha2⟩ := ha
    obtain ⟨hb1, hb2⟩ := hb
    go_enter_defers Tryz.func36, Tryz.ntmps36
    go_wp2_with fail
    refine leaves_cons (f := 63) (args := #[.pointer (some ⟨w.heap.size, 0, none⟩), .pointer (some ⟨w.heap.size + 1, 0, none⟩)]) (by simp) (by simp [go_sem]) ?_
    refine (out_idle _ 63 Tryz.f63 Tryz.func63 rfl rfl rfl w.heap.size ⟨w.heap.size, 0, none⟩ ⟨w.heap.size + 1, 0, none⟩ S (.int .i64 0) _ (by simp) (by simp [go_sem]) (by simp) (by simp) (blk_ne w) (by simp [go_sem]) (by simp [go_sem])).mono ?_
    rintro e u' w'' ⟨rfl, rfl, hl⟩
    obtain ⟨hb2, _, hp2, hq2⟩ := hl
    simp [Leaves, settle, results, Tryz.results36, go_sem, hp2, hq2]
    exact ⟨HE.out.symm, (((Below.refl _ _).alloc (Nat.le_refl _) _).alloc (by simp) _).trans hb2⟩
  · have hx : X < 0 := hXn.2 h
    have HE : Hid (sumE (a + b) = pair 0 10) := Lib.hid (by unfold sumE; exact if_neg h)
    clear hXn h
    obtain ⟨ha1, ha2⟩ := ha
    obtain ⟨hb1, hb2⟩ := hb
    go_enter_defers Tryz.func36, Tryz.ntmps36
    go_wp2_with fail
    refine leaves_cons (f := 63) (args := #[.pointer (some ⟨w.heap.size, 0, none⟩), .pointer (some ⟨w.heap.size + 1, 0, none⟩)]) (by simp) (by simp [go_sem]) ?_
    refine (out_caught _ 63 Tryz.f63 Tryz.func63 rfl rfl rfl w.heap.size ⟨w.heap.size, 0, none⟩ ⟨w.heap.size + 1, 0, none⟩ 0 10 [] (.int .i64 0) _ (by simp) (by simp [go_sem]) (by simp) (by simp) (blk_ne w) (by simp [go_sem]) (by simp [go_sem])).mono ?_
    rintro e u' w'' ⟨rfl, rfl, hl⟩
    obtain ⟨hb2, _, hp2, hq2⟩ := hl
    simp [Leaves, settle, results, Tryz.results36, go_sem, hp2, hq2]
    exact ⟨HE.out.symm, (((Below.refl _ _).alloc (Nat.le_refl _) _).alloc (by simp) _).trans hb2⟩

set_option maxRecDepth 100000 in
theorem Sub_any (a b : Int) (ha : I64 a) (hb : I64 b) (w : World) :
    Calls Tryz.prog 38 #[.int .i64 a, .int .i64 b] w fun e w' => e = sumE (a - b) ∧ Below w.heap.size w w' := by
  have hm := hmf
  obtain ⟨S, hS⟩ : ∃ S, wrap64 (a - b) = S := ⟨_, rfl⟩
  have hSr : I64 S := by rw [← hS]; unfold wrap64 I64; omega
  obtain ⟨X, hX⟩ : ∃ X, bits .and .i64 (bits .xor .i64 a b) (bits .xor .i64 a S) = X := ⟨_, rfl⟩
  have hXn : X < 0 ↔ ¬ I64 (a - b) := by
    rw [← hX, and_neg _ _ (xor_range _ _) (xor_range _ _), xor_neg _ _ ha hb, xor_neg _ _ ha hSr]
    unfold I64 at *
    unfold wrap64 at hS
    omega
  obtain ⟨hSr1, hSr2⟩ := hSr
  by_cases h : I64 (a - b)
  · have hx : ¬ X < 0 := fun h' => hXn.1 h' h
    have hSS : S = a - b := by rw [← hS]; unfold wrap64; obtain ⟨h1, h2⟩ := h; omega
    have HSS := Lib.hid hSS
    have HE : Hid (sumE (a - b) = pair S 0) := Lib.hid (by unfold sumE; exact (if_pos h).trans (by rw [hSS]))
    clear hSS hXn h
    obtain ⟨ha1, ha2⟩ := ha
    obtain ⟨hb1, hb2⟩ := hb
    go_enter_defers Tryz.func38, Tryz.ntmps38
    go_wp2_with fail
    refine leaves_cons (f := 64) (args := #[.pointer (some ⟨w.heap.size, 0, none⟩), .pointer (some ⟨w.heap.size + 1, 0, none⟩)]) (by simp) (by simp [go_sem]) ?_
    refine (out_idle _ 64 Tryz.f64 Tryz.func64 rfl rfl rfl w.heap.size ⟨w.heap.size, 0, none⟩ ⟨w.heap.size + 1, 0, none⟩ S (.int .i64 0) _ (by simp) (by simp [go_sem]) (by simp) (by simp) (blk_ne w) (by simp [go_sem]) (by simp [go_sem])).mono ?_
    rintro e u' w'' ⟨rfl, rfl, hl⟩
    obtain ⟨hb2, _, hp2, hq2⟩ := hl
    simp [Leaves, settle, results, Tryz.results38, go_sem, hp2, hq2]
    exact ⟨HE.out.symm, (((Below.refl _ _).alloc (Nat.le_refl _) _).alloc (by simp) _).trans hb2⟩
  · have hx : X < 0 := hXn.2 h
    have HE : Hid (sumE (a - b) = pair 0 10) := Lib.hid (by unfold sumE; exact if_neg h)
    clear hXn h
    obtain ⟨ha1, ha2⟩ := ha
    obtain ⟨hb1, hb2⟩ := hb
    go_enter_defers Tryz.func38, Tryz.ntmps38
    go_wp2_with fail
    refine leaves_cons (f := 64) (args := #[.pointer (some ⟨w.heap.size, 0, none⟩), .pointer (some ⟨w.heap.size + 1, 0, none⟩)]) (by simp) (by simp [go_sem]) ?_
    refine (out_caught _ 64 Tryz.f64 Tryz.func64 rfl rfl rfl w.heap.size ⟨w.heap.size, 0, none⟩ ⟨w.heap.size + 1, 0, none⟩ 0 10 [] (.int .i64 0) _ (by simp) (by simp [go_sem]) (by simp) (by simp) (blk_ne w) (by simp [go_sem]) (by simp [go_sem])).mono ?_
    rintro e u' w'' ⟨rfl, rfl, hl⟩
    obtain ⟨hb2, _, hp2, hq2⟩ := hl
    simp [Leaves, settle, results, Tryz.results38, go_sem, hp2, hq2]
    exact ⟨HE.out.symm, (((Below.refl _ _).alloc (Nat.le_refl _) _).alloc (by simp) _).trans hb2⟩
end Go.Proofs.YtpodgmibghcjdaaGreatDoor
