/-
  What the program tells of characters, as a contract: the joining type; the variable of forms.
-/
import Derived.Test.YtbdhgjaoojimmaaDoorBk
import Derived.Test.YtbdhgjaoojimmaaDoorEq
import Derived.Test.YtbdhgjaoojimmaaDoorTb
namespace Go.Proofs.YtbdhgjaoojimmaaDoor
open Go Go.RowKit
set_option linter.unusedVariables false
def ucJn (_N : Nat) (r : Int) : Option Int := some (jnC r)
def ucJn_R (r : Int) (w0 : World) (v : Value) (w : World) : Prop := v = .int .u8 r ∧ St [] w0 w []
theorem ucJn_ok (N : Nat) (p0 : Int) (r : Int) (hF : ucJn N p0 = some r) (w0 : World) :
    Calls Tryd.prog 21 #[.int .i32 p0] w0 fun e w => ∃ v, e = .returned v ∧ ucJn_R r w0 v w := by
  refine (joining_any p0 w0).mono ?_
  rintro e w ⟨rfl, rfl⟩
  obtain rfl := Option.some.inj hF
  exact ⟨_, rfl, by rw [joining_eq, jnT_eq]; rfl, St.start _⟩
def fjL : List Int := [1, 2, 4, 3]
/-- the forms stand in their variable -/
def MirW (w : World) : Prop := ∀ (j : Nat), j < 4 → w.cell? ⟨0, j, none⟩ = some (.int .u8 (fjL.getD j 0))
theorem mir_of_laid {L : List (String × DataW Unit)} {W : World}
    (h1 : ((L.filter fun x => x.2.handleName?.isNone).filter fun x => x.1 == "calamus/joining.formsJoined") = [("calamus/joining.formsJoined", .agg ([[1, 2], [4, 3]].map fun zs => Lib.tabData .u8 zs))])
    (hL : laidMetH Tryd.prog L W) : MirW W := by
  have e1 := ((laidMetH_iff.1 hL).1).filter (fun x => x.1 == "calamus/joining.formsJoined")
  rw [h1] at e1
  obtain ⟨g, t, cs, fuel, p, hg, hty, hvar, hd⟩ := Lib.laidMet.reads e1 (List.mem_singleton.2 rfl)
  obtain rfl : 0 = g := Option.some.inj ((show Tryd.prog.globalNamed "calamus/joining.formsJoined" = some 0 by kernel_rfl).symm.trans hg)
  obtain rfl : 45 = t := Option.some.inj ((show (Tryd.prog.globals[0]?).map (·.type) = some 45 by kernel_rfl).symm.trans hty)
  have hcs := cells_of_tab2 Tryd.underlying45 Tryd.underlying44 Tryd.underlying5 (by kernel_rfl) (by kernel_rfl) (by kernel_rfl) hd
  intro j hj
  rw [World.var?_cell hg hvar j, ← Array.getElem?_toList, hcs]
  rcases j with _ | _ | _ | _ | j
  · rfl
  · rfl
  · rfl
  · rfl
  · omega
/-- they are there, and not lent -/
def MirB (bs : List Nat) (w : World) : Prop := MirW w ∧ 0 ∉ bs
theorem MirB.lt {bs : List Nat} {w : World} (h : MirB bs w) : 0 < w.heap.size := World.block_lt_of_cell? w _ (h.1 0 (by decide))
theorem MirB.st {bs : List Nat} {w0 w : World} {es : List Ent} (h : MirB bs w0) (hS : St bs w0 w es) : MirW w := by
  intro j hj
  rw [World.cell?_of_block (w := w0) (hS.but.block _ h.lt h.2)]
  exact h.1 j hj
theorem MirB.atL {bs : List Nat} {w0 w : World} {A B : List Ent} (h : MirB bs w0) (hS : St bs w0 w (A ++ B)) : MirB (foots A) w := by
  refine ⟨h.st hS, fun hm => ?_⟩
  obtain ⟨e, he, hk⟩ := mem_foots.1 hm
  rcases ((hS.holds e (by simp [he])).2 _ hk).1 with h1 | h1
  · have := h.lt; omega
  · exact h.2 h1
end Go.Proofs.YtbdhgjaoojimmaaDoor
