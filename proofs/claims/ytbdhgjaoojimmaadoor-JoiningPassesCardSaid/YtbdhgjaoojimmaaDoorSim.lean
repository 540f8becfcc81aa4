/-
  A straight function that only makes values (a table written out), by running it.
-/
import Derived.Test.YtbdhgjaoojimmaaDoorProg
import Derived.WalkKit
import Derived.KernelRfl
import Derived.Below
namespace Go.Proofs.YtbdhgjaoojimmaaDoor
open Go Go.RowKit

/-- operations that only make values, one behind the other -/
def simL (P : Program) (ops : Array Oper) : List Oper → Act → World → Option (Act × World)
  | [], a, w => some (a, w)
  | o :: rest, a, w =>
    if Region.wanted o (yielded ops a.tmps) then
      match (execOp a.eval o).run P w with
      | .ok (.value v) w' => simL P ops rest (a.put o.dst v) w'
      | _ => none
    else simL P ops rest (a.put o.dst undef) w

theorem simL_wp {P : Program} {ops : Array Oper} {Q : Exit → Act → World → Prop} : ∀ (l : List Oper) (a : Act) (w : World) (r : Act × World), simL P ops l a w = some r → Q .normal r.1 r.2 → wpList P ops Q l a w := by
  intro l
  induction l with
  | nil =>
    intro a w r h hq
    simp only [simL, Option.some.injEq] at h
    subst h
    exact hq
  | cons o rest ih =>
    intro a w r h hq
    rw [simL] at h
    unfold wpList
    by_cases hw : Region.wanted o (yielded ops a.tmps)
    · rw [if_pos hw] at h ⊢
      refine .inl ?_
      unfold Oper.wp
      revert h
      cases hr : (execOp a.eval o).run P w with
      | ok n w' =>
        cases n with
        | value v => intro h; exact ih _ _ _ h hq
        | _ => intro h; cases h
      | _ => intro h; cases h
    · rw [if_neg hw] at h ⊢
      exact ih _ _ _ h hq

/-- straight code that ends in a return -/
def simC (P : Program) : Code → Act → World → Option (Act × World)
  | .seq (.region _ ops false) rest, a, w => match simL P ops ops.toList a w with
    | some r => simC P rest r.1 r.2
    | none => none
  | .ret, a, w => some (a, w)
  | _, _, _ => none

theorem simC_wp {P : Program} {Q : Exit → Act → World → Prop} (c : Code) (a : Act) (w : World) (r : Act × World) (h : simC P c a w = some r) (hq : Q .ret r.1 r.2) : c.wp P Q a w := by
  fun_induction simC P c a w with
  | case1 a w id ops rest r1 h1 ih =>
    exact wp_seq (wp_region_list (simL_wp _ _ _ _ h1 (ih h)))
  | case2 => cases h
  | case3 a w =>
    simp only [Option.some.injEq] at h
    subst h
    exact wp_ret hq
  | case4 => cases h

/-- what a straight function tells, and the world that it leaves -/
def simV (P : Program) (c : Code) (slot : Nat) (a : Act) (w : World) : Option (Value × World × Bool) := (simC P c a w).map fun r => (r.1.tmps.getD slot undef, r.2, r.1.defers.isEmpty)

theorem simV_wp {P : Program} {fn : Func} {R : Ending → World → Prop} (c : Code) (slot : Nat) (a : Act) (w w' : World) (v : Value) (hres : fn.results = #[.tmp slot]) (h : simV P c slot a w = some (v, w', true)) (hR : R (.returned v) w') : c.wp P (bodyPost P fn R) a w := by
  unfold simV at h
  cases hs : simC P c a w with
  | none => rw [hs] at h; cases h
  | some r =>
    rw [hs] at h
    simp only [Option.map_some, Option.some.injEq, Prod.mk.injEq] at h
    obtain ⟨h1, h2, h3⟩ := h
    refine simC_wp c a w r hs ?_
    refine bodyPost_ret (results_tmp hres _ _ _) (by simpa using h3) ?_
    rw [h1, h2]
    exact hR

/-- the rows of a table that a function writes out: from, to, value -/
def rowsOf (ops : List Oper) : List (Int × Int × Int) := ops.filterMap fun o =>
  match o.op with
  | .build _ #[(_, .const (.int _ a)), (_, .const (.int _ b)), (_, .const (.int _ v))] => some (a, b, v)
  | _ => none

def opsOf : Code → List Oper
  | .seq (.region _ ops _) rest => ops.toList ++ opsOf rest
  | _ => []

def tableOf (fn : Func) : List (Int × Int × Int) := match fn.body with
  | some c => rowsOf (opsOf c)
  | none => []

/-- a table's cells -/
def cellsT (t : List (Int × Int × Int)) : List Value := t.flatMap fun x => [.int .i32 x.1, .int .i32 x.2.1, .int .u8 x.2.2]

end Go.Proofs.YtbdhgjaoojimmaaDoor
