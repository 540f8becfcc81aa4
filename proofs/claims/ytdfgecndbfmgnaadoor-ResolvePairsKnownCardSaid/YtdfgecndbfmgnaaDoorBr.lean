/-
  A bracket, as the program tells it.
-/
import Derived.Test.YtdfgecndbfmgnaaDoorSu
import Derived.Test.YtdfgecndbfmgnaaDoorMir
namespace Go.Proofs.YtdfgecndbfmgnaaDoor
open Go Go.RowKit
set_option linter.unusedVariables false
def brT : List (Int × Int) := [(40, 41), (91, 93), (123, 125), (8261, 8262), (8317, 8318), (8333, 8334), (8968, 8969), (8970, 8971), (9001, 9002), (10214, 10215), (10216, 10217), (10218, 10219), (10220, 10221), (10222, 10223), (12296, 12297), (12298, 12299), (12300, 12301), (12302, 12303), (12304, 12305), (12308, 12309), (12310, 12311), (12312, 12313), (12314, 12315)]
theorem brT_eq : pairTable Tryd.f31 = brT := by kernel_rfl
def ucBr (_N : Nat) (r : Int) : Option (Int × Bool × Bool) := some (bracketS brT r)
def ucBr_R (r : Int × Bool × Bool) (w0 : World) (v : Value) (w : World) : Prop := v = .tuple #[.int .i32 r.1, .bool r.2.1, .bool r.2.2] ∧ St [] w0 w []
theorem ucBr_ok (N : Nat) (p0 : Int) (r : Int × Bool × Bool) (hF : ucBr N p0 = some r) (w0 : World) (hcd : MirW w0) :
    Calls Tryd.prog 25 #[.int .i32 p0] w0 fun e w => ∃ v, e = .returned v ∧ ucBr_R r w0 v w := by
  refine (bracket_is brT (brT_eq ▸ mir_ok) p0 w0 hcd).mono ?_
  rintro e w ⟨rfl, rfl⟩
  obtain rfl := Option.some.inj hF
  exact ⟨_, rfl, rfl, St.start _⟩
theorem MirW.at {w w' : World} (h : MirW w) (hb : Below w.heap.size w w') : MirW w' := h.below hb
end Go.Proofs.YtdfgecndbfmgnaaDoor
