/-
  A straight function that only makes values (a table written out), by running it.
-/
import Derived.Test.YtdfgecndbfmgnaaDoorProg
import Derived.WalkKit
import Derived.KernelRfl
import Derived.Below
namespace Go.Proofs.YtdfgecndbfmgnaaDoor
open Go Go.RowKit
def opsOf : Code → List Oper
  | .seq (.region _ ops _) rest => ops.toList ++ opsOf rest
  | _ => []
end Go.Proofs.YtdfgecndbfmgnaaDoor
