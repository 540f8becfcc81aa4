/-
  The contracts of fixed.outcome and of the deferred closures 'n, e = outcome(n, recover())'.
-/
import Derived.Test.YtpodgmibghcjdaaGreatDoorChecked
import Derived.Test.YtpodgmibghcjdaaGreatDoorBase
import Derived.WalkKit
import Derived.Defers
import Derived.Recover
import Derived.Deep.QuietTactic
import Derived.BigQuiet
import Derived.Laws.Pointers
import Derived.WalkLawsBesides
import Derived.Outline
namespace Go.Proofs.YtpodgmibghcjdaaGreatDoor
open Go Go.RowKit

@[go_sem] theorem as_errno (v : Value) (w : World) : (Instr.typeAssert (.iface 22 v) 20 22 false).run Tryz.prog w = .ok v w := by kernel_rfl

theorem outcome_nil (n : Int) (w : World) : Calls Tryz.prog 16 #[.int .i64 n, .nilIface] w fun e w' => e = .returned (.tuple #[.int .i64 n, .int .i64 0]) ∧ w' = w := by
  go_enter Tryz.func16, Tryz.ntmps16
  go_wp2
  go_ret2
  exact ⟨rfl, rfl⟩

theorem outcome_err (n k : Int) (w : World) : Calls Tryz.prog 16 #[.int .i64 n, .iface 22 (.int .i64 k)] w fun e w' => e = .returned (.tuple #[.int .i64 0, .int .i64 k]) ∧ ∃ d, w' = w.drewN d := by
  go_enter Tryz.func16, Tryz.ntmps16
  go_wp2
  go_quiet (fail)
  go_wp2
  go_ret2
  exact ⟨rfl, _, rfl⟩


attribute [local irreducible] wpOpsS

/-- the one region of each deferred closure, but for its place in the text -/
def outOps (s : String) : Array Oper :=
  #[{ dst := some 3, op := Op.load 2 (Operand.tmp 0), type := 2, pos := s, after := #[], guard := none },
    { dst := some 4, op := Op.call { callee := Callee.builtin Builtin.recover, args := #[], argTypes := #[] }, type := 20, pos := s, after := #[], guard := none },
    { dst := some 5, op := Op.call { callee := Callee.value (Operand.func 16), args := #[Operand.tmp 3, Operand.tmp 4], argTypes := #[2, 20] }, type := 23, pos := s,
      after := #[{ on := 0, ground := Ground.data }, { on := 1, ground := Ground.data }, { on := 1, ground := Ground.chain }], guard := none },
    { dst := some 2, op := Op.move (Operand.tmp 5), type := 23, pos := s, after := #[{ on := 2, ground := Ground.data }], guard := none },
    { dst := some 6, op := Op.extract (Operand.tmp 2) 0, type := 2, pos := s, after := #[{ on := 3, ground := Ground.data }], guard := none },
    { dst := some 7, op := Op.extract (Operand.tmp 2) 1, type := 22, pos := s, after := #[{ on := 3, ground := Ground.data }, { on := 6, ground := Ground.gcOnly Departure.lateStores }], guard := none },
    { dst := none, op := Op.store 2 (Operand.tmp 0) (Operand.tmp 6), type := 0, pos := s,
      after := #[{ on := 4, ground := Ground.data }, { on := 2, ground := Ground.chain }, { on := 0, ground := Ground.phase }, { on := 1, ground := Ground.phase }, { on := 2, ground := Ground.phase }, { on := 3, ground := Ground.phase }, { on := 4, ground := Ground.phase }, { on := 5, ground := Ground.textOnly Departure.lateStores }], guard := none },
    { dst := none, op := Op.store 22 (Operand.tmp 1) (Operand.tmp 7), type := 0, pos := s,
      after := #[{ on := 5, ground := Ground.data }, { on := 6, ground := Ground.chain }, { on := 0, ground := Ground.phase }, { on := 1, ground := Ground.phase }, { on := 2, ground := Ground.phase }, { on := 3, ground := Ground.phase }, { on := 4, ground := Ground.phase }, { on := 5, ground := Ground.phase }, { on := 6, ground := Ground.phase }], guard := none }]

theorem outOps_orders (s : String) : allLin .any (outOps s) (outOps s).size (Array.replicate (outOps s).size false) = [[0, 1, 2, 3, 4, 5, 6, 7], [0, 1, 2, 3, 4, 6, 5, 7], [0, 1, 2, 3, 5, 4, 6, 7], [1, 0, 2, 3, 4, 5, 6, 7], [1, 0, 2, 3, 4, 6, 5, 7], [1, 0, 2, 3, 5, 4, 6, 7]] := by kernel_rfl

/-- what a deferred closure leaves: the two named results, and nothing below B -/
def Left2 (B : Nat) (p q : Addr) (n k : Int) (w w' : World) : Prop :=
  Below B w w' ∧ w'.heap.size = w.heap.size ∧ w'.cell? p = some (.int .i64 n) ∧ w'.cell? q = some (.int .i64 k)

theorem left2_of {B : Nat} {p q : Addr} {n k : Int} {w w' : World} {v1 v0 : Value} (hc : w'.cell? p = some v1) (hd : w'.cell? q = some v0) (hp : B ≤ p.block) (hq : B ≤ q.block) (hpq : p ≠ q)
    (hb : Below B w w') (hs : w'.heap.size = w.heap.size) :
    Left2 B p q n k w ((w'.setCell p (.int .i64 n)).setCell q (.int .i64 k)) := by
  refine ⟨(hb.setCell hp _).setCell hq _, by simp [hs], ?_, ?_⟩
  · rw [World.cell?_setCell_other _ _ _ _ (fun h => hpq h.symm)]
    exact World.cell?_setCell_same _ _ _ hc
  · exact World.cell?_setCell_same _ _ _ (by rw [World.cell?_setCell_other _ _ _ _ hpq]; exact hd)

set_option maxRecDepth 100000 in
set_option maxHeartbeats 2000000 in
theorem out_idle (s : String) (F : FuncId) (fn : Func) (hfn : Tryz.prog.funcs[F]? = some fn) (hbody : fn.body = some (.region 0 (outOps s) true)) (hres : fn.results = #[]) (hnt : fn.ntmps = 8) (B : Nat) (p q : Addr) (n : Int) (v0 : Value) (w : World) (hc : w.cell? p = some (.int .i64 n)) (hd : w.cell? q = some v0) (hp : B ≤ p.block) (hq : B ≤ q.block) (hpq : p ≠ q) (hfp : w.frozen? p = false) (hfq : w.frozen? q = false) :
    CallsD Tryz.prog F #[.pointer (some p), .pointer (some q)] .returning w fun e u' w' => e = .returned (.tuple #[]) ∧ u' = .returning ∧ Left2 B p q n 0 w w' := by
  refine callsD_of_wpS hfn hbody fun c₀ cs hu => ?_
  refine wpS_region_draw (by kernel_rfl) (outOps_orders s) ?_
  unfold outOps
  have hrec : recoverD (c₀ :: cs) = none := by simp [recoverD, hu]
  intro l hl
  simp only [List.mem_cons, List.not_mem_nil, or_false] at hl
  rcases hl with rfl | rfl | rfl | rfl | rfl | rfl
  · refine opsS_val rfl rfl (v := .int .i64 n) (w' := w.drew) (by simp [go_sem, hnt, hc]) ?_
    refine opsS_nil rfl rfl (w' := w.drew) (by simp [go_sem]) hrec ?_
    refine opsS_call rfl rfl (f := 16) (args := #[.int .i64 n, .nilIface]) (w' := w.drew) (by simp [go_sem, hnt]) (outcome_nil _ _) ?_
    rintro w' rfl
    refine opsS_val rfl rfl (v := .tuple #[.int .i64 n, .int .i64 0]) (w' := w.drew) (by simp [go_sem, hnt]) ?_
    refine opsS_val rfl rfl (v := .int .i64 n) (w' := w.drew) (by simp [go_sem, hnt]) ?_
    refine opsS_val rfl rfl (v := .int .i64 0) (w' := w.drew) (by simp [go_sem, hnt]) ?_
    refine opsS_skip rfl rfl (w' := w.drew.setCell p (.int .i64 n)) (by simp [go_sem, hnt, hc, hfp]) ?_
    refine opsS_skip rfl rfl (w' := (w.drew.setCell p (.int .i64 n)).setCell q (.int .i64 0)) (by simp [go_sem, hnt, World.cell?_setCell_other _ _ _ _ hpq, hd, hfq]) ?_
    refine opsS_end ⟨rfl, _, ?_, .tuple #[], by simp [results, hres], rfl, rfl, left2_of (v1 := .int .i64 n) (v0 := v0) (by simp [hc]) (by simp [hd]) hp hq hpq (Below.refl _ _).drew rfl⟩
    cases c₀; simp_all
  · refine opsS_val rfl rfl (v := .int .i64 n) (w' := w.drew) (by simp [go_sem, hnt, hc]) ?_
    refine opsS_nil rfl rfl (w' := w.drew) (by simp [go_sem]) hrec ?_
    refine opsS_call rfl rfl (f := 16) (args := #[.int .i64 n, .nilIface]) (w' := w.drew) (by simp [go_sem, hnt]) (outcome_nil _ _) ?_
    rintro w' rfl
    refine opsS_val rfl rfl (v := .tuple #[.int .i64 n, .int .i64 0]) (w' := w.drew) (by simp [go_sem, hnt]) ?_
    refine opsS_val rfl rfl (v := .int .i64 n) (w' := w.drew) (by simp [go_sem, hnt]) ?_
    refine opsS_skip rfl rfl (w' := w.drew.setCell p (.int .i64 n)) (by simp [go_sem, hnt, hc, hfp]) ?_
    refine opsS_val rfl rfl (v := .int .i64 0) (w' := w.drew.setCell p (.int .i64 n)) (by simp [go_sem, hnt]) ?_
    refine opsS_skip rfl rfl (w' := (w.drew.setCell p (.int .i64 n)).setCell q (.int .i64 0)) (by simp [go_sem, hnt, World.cell?_setCell_other _ _ _ _ hpq, hd, hfq]) ?_
    refine opsS_end ⟨rfl, _, ?_, .tuple #[], by simp [results, hres], rfl, rfl, left2_of (v1 := .int .i64 n) (v0 := v0) (by simp [hc]) (by simp [hd]) hp hq hpq (Below.refl _ _).drew rfl⟩
    cases c₀; simp_all
  · refine opsS_val rfl rfl (v := .int .i64 n) (w' := w.drew) (by simp [go_sem, hnt, hc]) ?_
    refine opsS_nil rfl rfl (w' := w.drew) (by simp [go_sem]) hrec ?_
    refine opsS_call rfl rfl (f := 16) (args := #[.int .i64 n, .nilIface]) (w' := w.drew) (by simp [go_sem, hnt]) (outcome_nil _ _) ?_
    rintro w' rfl
    refine opsS_val rfl rfl (v := .tuple #[.int .i64 n, .int .i64 0]) (w' := w.drew) (by simp [go_sem, hnt]) ?_
    refine opsS_val rfl rfl (v := .int .i64 0) (w' := w.drew) (by simp [go_sem, hnt]) ?_
    refine opsS_val rfl rfl (v := .int .i64 n) (w' := w.drew) (by simp [go_sem, hnt]) ?_
    refine opsS_skip rfl rfl (w' := w.drew.setCell p (.int .i64 n)) (by simp [go_sem, hnt, hc, hfp]) ?_
    refine opsS_skip rfl rfl (w' := (w.drew.setCell p (.int .i64 n)).setCell q (.int .i64 0)) (by simp [go_sem, hnt, World.cell?_setCell_other _ _ _ _ hpq, hd, hfq]) ?_
    refine opsS_end ⟨rfl, _, ?_, .tuple #[], by simp [results, hres], rfl, rfl, left2_of (v1 := .int .i64 n) (v0 := v0) (by simp [hc]) (by simp [hd]) hp hq hpq (Below.refl _ _).drew rfl⟩
    cases c₀; simp_all
  · refine opsS_nil rfl rfl (w' := w.drew) (by simp [go_sem]) hrec ?_
    refine opsS_val rfl rfl (v := .int .i64 n) (w' := w.drew) (by simp [go_sem, hnt, hc]) ?_
    refine opsS_call rfl rfl (f := 16) (args := #[.int .i64 n, .nilIface]) (w' := w.drew) (by simp [go_sem, hnt]) (outcome_nil _ _) ?_
    rintro w' rfl
    refine opsS_val rfl rfl (v := .tuple #[.int .i64 n, .int .i64 0]) (w' := w.drew) (by simp [go_sem, hnt]) ?_
    refine opsS_val rfl rfl (v := .int .i64 n) (w' := w.drew) (by simp [go_sem, hnt]) ?_
    refine opsS_val rfl rfl (v := .int .i64 0) (w' := w.drew) (by simp [go_sem, hnt]) ?_
    refine opsS_skip rfl rfl (w' := w.drew.setCell p (.int .i64 n)) (by simp [go_sem, hnt, hc, hfp]) ?_
    refine opsS_skip rfl rfl (w' := (w.drew.setCell p (.int .i64 n)).setCell q (.int .i64 0)) (by simp [go_sem, hnt, World.cell?_setCell_other _ _ _ _ hpq, hd, hfq]) ?_
    refine opsS_end ⟨rfl, _, ?_, .tuple #[], by simp [results, hres], rfl, rfl, left2_of (v1 := .int .i64 n) (v0 := v0) (by simp [hc]) (by simp [hd]) hp hq hpq (Below.refl _ _).drew rfl⟩
    cases c₀; simp_all
  · refine opsS_nil rfl rfl (w' := w.drew) (by simp [go_sem]) hrec ?_
    refine opsS_val rfl rfl (v := .int .i64 n) (w' := w.drew) (by simp [go_sem, hnt, hc]) ?_
    refine opsS_call rfl rfl (f := 16) (args := #[.int .i64 n, .nilIface]) (w' := w.drew) (by simp [go_sem, hnt]) (outcome_nil _ _) ?_
    rintro w' rfl
    refine opsS_val rfl rfl (v := .tuple #[.int .i64 n, .int .i64 0]) (w' := w.drew) (by simp [go_sem, hnt]) ?_
    refine opsS_val rfl rfl (v := .int .i64 n) (w' := w.drew) (by simp [go_sem, hnt]) ?_
    refine opsS_skip rfl rfl (w' := w.drew.setCell p (.int .i64 n)) (by simp [go_sem, hnt, hc, hfp]) ?_
    refine opsS_val rfl rfl (v := .int .i64 0) (w' := w.drew.setCell p (.int .i64 n)) (by simp [go_sem, hnt]) ?_
    refine opsS_skip rfl rfl (w' := (w.drew.setCell p (.int .i64 n)).setCell q (.int .i64 0)) (by simp [go_sem, hnt, World.cell?_setCell_other _ _ _ _ hpq, hd, hfq]) ?_
    refine opsS_end ⟨rfl, _, ?_, .tuple #[], by simp [results, hres], rfl, rfl, left2_of (v1 := .int .i64 n) (v0 := v0) (by simp [hc]) (by simp [hd]) hp hq hpq (Below.refl _ _).drew rfl⟩
    cases c₀; simp_all
  · refine opsS_nil rfl rfl (w' := w.drew) (by simp [go_sem]) hrec ?_
    refine opsS_val rfl rfl (v := .int .i64 n) (w' := w.drew) (by simp [go_sem, hnt, hc]) ?_
    refine opsS_call rfl rfl (f := 16) (args := #[.int .i64 n, .nilIface]) (w' := w.drew) (by simp [go_sem, hnt]) (outcome_nil _ _) ?_
    rintro w' rfl
    refine opsS_val rfl rfl (v := .tuple #[.int .i64 n, .int .i64 0]) (w' := w.drew) (by simp [go_sem, hnt]) ?_
    refine opsS_val rfl rfl (v := .int .i64 0) (w' := w.drew) (by simp [go_sem, hnt]) ?_
    refine opsS_val rfl rfl (v := .int .i64 n) (w' := w.drew) (by simp [go_sem, hnt]) ?_
    refine opsS_skip rfl rfl (w' := w.drew.setCell p (.int .i64 n)) (by simp [go_sem, hnt, hc, hfp]) ?_
    refine opsS_skip rfl rfl (w' := (w.drew.setCell p (.int .i64 n)).setCell q (.int .i64 0)) (by simp [go_sem, hnt, World.cell?_setCell_other _ _ _ _ hpq, hd, hfq]) ?_
    refine opsS_end ⟨rfl, _, ?_, .tuple #[], by simp [results, hres], rfl, rfl, left2_of (v1 := .int .i64 n) (v0 := v0) (by simp [hc]) (by simp [hd]) hp hq hpq (Below.refl _ _).drew rfl⟩
    cases c₀; simp_all

set_option maxRecDepth 100000 in
set_option maxHeartbeats 2000000 in
theorem out_caught (s : String) (F : FuncId) (fn : Func) (hfn : Tryz.prog.funcs[F]? = some fn) (hbody : fn.body = some (.region 0 (outOps s) true)) (hres : fn.results = #[]) (hnt : fn.ntmps = 8) (B : Nat) (p q : Addr) (n : Int) (k : Int) (older : List PanicEntry) (v0 : Value) (w : World) (hc : w.cell? p = some (.int .i64 n)) (hd : w.cell? q = some v0) (hp : B ≤ p.block) (hq : B ≤ q.block) (hpq : p ≠ q) (hfp : w.frozen? p = false) (hfq : w.frozen? q = false) :
    CallsD Tryz.prog F #[.pointer (some p), .pointer (some q)] (.panicking ({ v := .iface 22 (.int .i64 k), recovered := false } :: older)) w fun e u' w' => e = .returned (.tuple #[]) ∧ u' = .panicking ({ v := .iface 22 (.int .i64 k), recovered := true } :: older) ∧ Left2 B p q 0 k w w' := by
  refine callsD_of_wpS hfn hbody fun c₀ cs hu => ?_
  refine wpS_region_draw (by kernel_rfl) (outOps_orders s) ?_
  unfold outOps
  have hrec : recoverD (c₀ :: cs) = some (.iface 22 (.int .i64 k), ({ c₀ with mode := .panicking ({ v := .iface 22 (.int .i64 k), recovered := true } :: older) } :: cs)) := by simp [recoverD, hu]
  intro l hl
  simp only [List.mem_cons, List.not_mem_nil, or_false] at hl
  rcases hl with rfl | rfl | rfl | rfl | rfl | rfl
  · refine opsS_val rfl rfl (v := .int .i64 n) (w' := w.drew) (by simp [go_sem, hnt, hc]) ?_
    refine opsS_rec rfl rfl (w' := w.drew) (by simp [go_sem]) hrec ?_
    refine opsS_call rfl rfl (f := 16) (args := #[.int .i64 n, .iface 22 (.int .i64 k)]) (w' := w.drew) (by simp [go_sem, hnt]) (outcome_err _ _ _) ?_
    rintro w' ⟨d, rfl⟩
    refine opsS_val rfl rfl (v := .tuple #[.int .i64 0, .int .i64 k]) (w' := (w.drew.drewN d)) (by simp [go_sem, hnt]) ?_
    refine opsS_val rfl rfl (v := .int .i64 0) (w' := (w.drew.drewN d)) (by simp [go_sem, hnt]) ?_
    refine opsS_val rfl rfl (v := .int .i64 k) (w' := (w.drew.drewN d)) (by simp [go_sem, hnt]) ?_
    refine opsS_skip rfl rfl (w' := (w.drew.drewN d).setCell p (.int .i64 0)) (by simp [go_sem, hnt, hc, hfp]) ?_
    refine opsS_skip rfl rfl (w' := ((w.drew.drewN d).setCell p (.int .i64 0)).setCell q (.int .i64 k)) (by simp [go_sem, hnt, World.cell?_setCell_other _ _ _ _ hpq, hd, hfq]) ?_
    refine opsS_end ⟨rfl, _, ?_, .tuple #[], by simp [results, hres], rfl, rfl, left2_of (v1 := .int .i64 n) (v0 := v0) (by simp [hc]) (by simp [hd]) hp hq hpq (below_drewN (Below.refl _ _).drew _) rfl⟩
    rfl
  · refine opsS_val rfl rfl (v := .int .i64 n) (w' := w.drew) (by simp [go_sem, hnt, hc]) ?_
    refine opsS_rec rfl rfl (w' := w.drew) (by simp [go_sem]) hrec ?_
    refine opsS_call rfl rfl (f := 16) (args := #[.int .i64 n, .iface 22 (.int .i64 k)]) (w' := w.drew) (by simp [go_sem, hnt]) (outcome_err _ _ _) ?_
    rintro w' ⟨d, rfl⟩
    refine opsS_val rfl rfl (v := .tuple #[.int .i64 0, .int .i64 k]) (w' := (w.drew.drewN d)) (by simp [go_sem, hnt]) ?_
    refine opsS_val rfl rfl (v := .int .i64 0) (w' := (w.drew.drewN d)) (by simp [go_sem, hnt]) ?_
    refine opsS_skip rfl rfl (w' := (w.drew.drewN d).setCell p (.int .i64 0)) (by simp [go_sem, hnt, hc, hfp]) ?_
    refine opsS_val rfl rfl (v := .int .i64 k) (w' := (w.drew.drewN d).setCell p (.int .i64 0)) (by simp [go_sem, hnt]) ?_
    refine opsS_skip rfl rfl (w' := ((w.drew.drewN d).setCell p (.int .i64 0)).setCell q (.int .i64 k)) (by simp [go_sem, hnt, World.cell?_setCell_other _ _ _ _ hpq, hd, hfq]) ?_
    refine opsS_end ⟨rfl, _, ?_, .tuple #[], by simp [results, hres], rfl, rfl, left2_of (v1 := .int .i64 n) (v0 := v0) (by simp [hc]) (by simp [hd]) hp hq hpq (below_drewN (Below.refl _ _).drew _) rfl⟩
    rfl
  · refine opsS_val rfl rfl (v := .int .i64 n) (w' := w.drew) (by simp [go_sem, hnt, hc]) ?_
    refine opsS_rec rfl rfl (w' := w.drew) (by simp [go_sem]) hrec ?_
    refine opsS_call rfl rfl (f := 16) (args := #[.int .i64 n, .iface 22 (.int .i64 k)]) (w' := w.drew) (by simp [go_sem, hnt]) (outcome_err _ _ _) ?_
    rintro w' ⟨d, rfl⟩
    refine opsS_val rfl rfl (v := .tuple #[.int .i64 0, .int .i64 k]) (w' := (w.drew.drewN d)) (by simp [go_sem, hnt]) ?_
    refine opsS_val rfl rfl (v := .int .i64 k) (w' := (w.drew.drewN d)) (by simp [go_sem, hnt]) ?_
    refine opsS_val rfl rfl (v := .int .i64 0) (w' := (w.drew.drewN d)) (by simp [go_sem, hnt]) ?_
    refine opsS_skip rfl rfl (w' := (w.drew.drewN d).setCell p (.int .i64 0)) (by simp [go_sem, hnt, hc, hfp]) ?_
    refine opsS_skip rfl rfl (w' := ((w.drew.drewN d).setCell p (.int .i64 0)).setCell q (.int .i64 k)) (by simp [go_sem, hnt, World.cell?_setCell_other _ _ _ _ hpq, hd, hfq]) ?_
    refine opsS_end ⟨rfl, _, ?_, .tuple #[], by simp [results, hres], rfl, rfl, left2_of (v1 := .int .i64 n) (v0 := v0) (by simp [hc]) (by simp [hd]) hp hq hpq (below_drewN (Below.refl _ _).drew _) rfl⟩
    rfl
  · refine opsS_rec rfl rfl (w' := w.drew) (by simp [go_sem]) hrec ?_
    refine opsS_val rfl rfl (v := .int .i64 n) (w' := w.drew) (by simp [go_sem, hnt, hc]) ?_
    refine opsS_call rfl rfl (f := 16) (args := #[.int .i64 n, .iface 22 (.int .i64 k)]) (w' := w.drew) (by simp [go_sem, hnt]) (outcome_err _ _ _) ?_
    rintro w' ⟨d, rfl⟩
    refine opsS_val rfl rfl (v := .tuple #[.int .i64 0, .int .i64 k]) (w' := (w.drew.drewN d)) (by simp [go_sem, hnt]) ?_
    refine opsS_val rfl rfl (v := .int .i64 0) (w' := (w.drew.drewN d)) (by simp [go_sem, hnt]) ?_
    refine opsS_val rfl rfl (v := .int .i64 k) (w' := (w.drew.drewN d)) (by simp [go_sem, hnt]) ?_
    refine opsS_skip rfl rfl (w' := (w.drew.drewN d).setCell p (.int .i64 0)) (by simp [go_sem, hnt, hc, hfp]) ?_
    refine opsS_skip rfl rfl (w' := ((w.drew.drewN d).setCell p (.int .i64 0)).setCell q (.int .i64 k)) (by simp [go_sem, hnt, World.cell?_setCell_other _ _ _ _ hpq, hd, hfq]) ?_
    refine opsS_end ⟨rfl, _, ?_, .tuple #[], by simp [results, hres], rfl, rfl, left2_of (v1 := .int .i64 n) (v0 := v0) (by simp [hc]) (by simp [hd]) hp hq hpq (below_drewN (Below.refl _ _).drew _) rfl⟩
    rfl
  · refine opsS_rec rfl rfl (w' := w.drew) (by simp [go_sem]) hrec ?_
    refine opsS_val rfl rfl (v := .int .i64 n) (w' := w.drew) (by simp [go_sem, hnt, hc]) ?_
    refine opsS_call rfl rfl (f := 16) (args := #[.int .i64 n, .iface 22 (.int .i64 k)]) (w' := w.drew) (by simp [go_sem, hnt]) (outcome_err _ _ _) ?_
    rintro w' ⟨d, rfl⟩
    refine opsS_val rfl rfl (v := .tuple #[.int .i64 0, .int .i64 k]) (w' := (w.drew.drewN d)) (by simp [go_sem, hnt]) ?_
    refine opsS_val rfl rfl (v := .int .i64 0) (w' := (w.drew.drewN d)) (by simp [go_sem, hnt]) ?_
    refine opsS_skip rfl rfl (w' := (w.drew.drewN d).setCell p (.int .i64 0)) (by simp [go_sem, hnt, hc, hfp]) ?_
    refine opsS_val rfl rfl (v := .int .i64 k) (w' := (w.drew.drewN d).setCell p (.int .i64 0)) (by simp [go_sem, hnt]) ?_
    refine opsS_skip rfl rfl (w' := ((w.drew.drewN d).setCell p (.int .i64 0)).setCell q (.int .i64 k)) (by simp [go_sem, hnt, World.cell?_setCell_other _ _ _ _ hpq, hd, hfq]) ?_
    refine opsS_end ⟨rfl, _, ?_, .tuple #[], by simp [results, hres], rfl, rfl, left2_of (v1 := .int .i64 n) (v0 := v0) (by simp [hc]) (by simp [hd]) hp hq hpq (below_drewN (Below.refl _ _).drew _) rfl⟩
    rfl
  · refine opsS_rec rfl rfl (w' := w.drew) (by simp [go_sem]) hrec ?_
    refine opsS_val rfl rfl (v := .int .i64 n) (w' := w.drew) (by simp [go_sem, hnt, hc]) ?_
    refine opsS_call rfl rfl (f := 16) (args := #[.int .i64 n, .iface 22 (.int .i64 k)]) (w' := w.drew) (by simp [go_sem, hnt]) (outcome_err _ _ _) ?_
    rintro w' ⟨d, rfl⟩
    refine opsS_val rfl rfl (v := .tuple #[.int .i64 0, .int .i64 k]) (w' := (w.drew.drewN d)) (by simp [go_sem, hnt]) ?_
    refine opsS_val rfl rfl (v := .int .i64 k) (w' := (w.drew.drewN d)) (by simp [go_sem, hnt]) ?_
    refine opsS_val rfl rfl (v := .int .i64 0) (w' := (w.drew.drewN d)) (by simp [go_sem, hnt]) ?_
    refine opsS_skip rfl rfl (w' := (w.drew.drewN d).setCell p (.int .i64 0)) (by simp [go_sem, hnt, hc, hfp]) ?_
    refine opsS_skip rfl rfl (w' := ((w.drew.drewN d).setCell p (.int .i64 0)).setCell q (.int .i64 k)) (by simp [go_sem, hnt, World.cell?_setCell_other _ _ _ _ hpq, hd, hfq]) ?_
    refine opsS_end ⟨rfl, _, ?_, .tuple #[], by simp [results, hres], rfl, rfl, left2_of (v1 := .int .i64 n) (v0 := v0) (by simp [hc]) (by simp [hd]) hp hq hpq (below_drewN (Below.refl _ _).drew _) rfl⟩
    rfl
end Go.Proofs.YtpodgmibghcjdaaGreatDoor
