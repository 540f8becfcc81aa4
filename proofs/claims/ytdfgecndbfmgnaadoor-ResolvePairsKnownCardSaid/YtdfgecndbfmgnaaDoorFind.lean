/-
  The document's find.
-/
import Derived.Test.YtdfgecndbfmgnaaDoorSim
import Derived.WalkLawsBesides
import Derived.WalkSpells
import Derived.Deep.LoopGhost
import Derived.Lib.Hide
namespace Go.Proofs.YtdfgecndbfmgnaaDoor
open Go Go.RowKit
end Go.Proofs.YtdfgecndbfmgnaaDoor
