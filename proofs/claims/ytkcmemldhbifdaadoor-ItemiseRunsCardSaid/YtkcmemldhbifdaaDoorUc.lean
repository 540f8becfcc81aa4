/-
  What the program tells of characters, as contracts: script, class, bracket.
-/
import Derived.Test.YtkcmemldhbifdaaDoorBk
import Derived.Test.YtkcmemldhbifdaaDoorEq
import Derived.Test.YtkcmemldhbifdaaDoorMir
namespace Go.Proofs.YtkcmemldhbifdaaDoor
open Go Go.RowKit
set_option linter.unusedVariables false
def ucSc (_N : Nat) (r : Int) : Option Int := some (scrC r)
def ucSc_R (r : Int) (w0 : World) (v : Value) (w : World) : Prop := v = .int .u8 r ∧ St [] w0 w []
theorem ucSc_ok (N : Nat) (p0 : Int) (r : Int) (hF : ucSc N p0 = some r) (w0 : World) :
    Calls Tryd.prog 42 #[.int .i32 p0] w0 fun e w => ∃ v, e = .returned v ∧ ucSc_R r w0 v w := by
  refine (script_any p0 w0).mono ?_
  rintro e w ⟨rfl, rfl⟩
  obtain rfl := Option.some.inj hF
  exact ⟨_, rfl, by rw [script_eq, scT_eq]; rfl, St.start _⟩
def ucCl (_N : Nat) (r : Int) : Option Int := some (claC r)
def ucCl_R (r : Int) (w0 : World) (v : Value) (w : World) : Prop := v = .int .u8 r ∧ St [] w0 w []
theorem ucCl_ok (N : Nat) (p0 : Int) (r : Int) (hF : ucCl N p0 = some r) (w0 : World) :
    Calls Tryd.prog 28 #[.int .i32 p0] w0 fun e w => ∃ v, e = .returned v ∧ ucCl_R r w0 v w := by
  refine (class_any p0 w0).mono ?_
  rintro e w ⟨rfl, rfl⟩
  obtain rfl := Option.some.inj hF
  exact ⟨_, rfl, by rw [class_eq, clT_eq]; rfl, St.start _⟩
def MirB (bs : List Nat) (w : World) : Prop := MirW w ∧ 0 ∉ bs
theorem MirB.lt {bs : List Nat} {w : World} (h : MirB bs w) : 0 < w.heap.size := World.block_lt_of_cell? w _ (h.1 0 (by decide))
theorem MirB.st {bs : List Nat} {w0 w : World} {es : List Ent} (h : MirB bs w0) (hS : St bs w0 w es) : MirW w := by
  intro j hj
  rw [World.cell?_of_block (w := w0) (hS.but.block _ h.lt h.2)]
  exact h.1 j hj
theorem MirB.atL {bs : List Nat} {w0 w : World} {A B : List Ent} (h : MirB bs w0) (hS : St bs w0 w (A ++ B)) : MirB (foots A) w := by
  refine ⟨h.st hS, fun hm => ?_⟩
  obtain ⟨e, he, hk⟩ := mem_foots.1 hm
  rcases ((hS.holds e (by simp [he])).2 _ hk).1 with h1 | h1
  · have := h.lt; omega
  · exact h.2 h1
def ucBr (_N : Nat) (r : Int) : Option (Int × Bool × Bool) := some (bracketS brT r)
def ucBr_R (r : Int × Bool × Bool) (w0 : World) (v : Value) (w : World) : Prop := v = .tuple #[.int .i32 r.1, .bool r.2.1, .bool r.2.2] ∧ St [] w0 w []
theorem ucBr_ok (N : Nat) (p0 : Int) (r : Int × Bool × Bool) (hF : ucBr N p0 = some r) (w0 : World) (hcd : MirB [] w0) :
    Calls Tryd.prog 36 #[.int .i32 p0] w0 fun e w => ∃ v, e = .returned v ∧ ucBr_R r w0 v w := by
  refine (bracket_is brT (brT_eq ▸ mir_ok) p0 w0 hcd.1).mono ?_
  rintro e w ⟨rfl, rfl⟩
  obtain rfl := Option.some.inj hF
  exact ⟨_, rfl, rfl, St.start _⟩
end Go.Proofs.YtkcmemldhbifdaaDoor
