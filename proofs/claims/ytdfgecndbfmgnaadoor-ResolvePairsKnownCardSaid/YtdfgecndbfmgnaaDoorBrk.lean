/-
  The document's Brackets and Bracket.
-/
import Derived.Test.YtdfgecndbfmgnaaDoorFind
import Derived.Deep.RegionHeld3
namespace Go.Proofs.YtdfgecndbfmgnaaDoor
open Go Go.RowKit
def pairsOf (ops : List Oper) : List (Int × Int) := ops.filterMap fun o =>
  match o.op with
  | .build _ #[(_, .const (.int _ a)), (_, .const (.int _ b))] => some (a, b)
  | _ => none
def pairTable (fn : Func) : List (Int × Int) := match fn.body with
  | some c => pairsOf (opsOf c)
  | none => []
def bracketS : List (Int × Int) → Int → Int × Bool × Bool
  | [], _ => (0, false, false)
  | x :: t, r => if r = x.1 ∨ r = x.2 then (if x.2 = 9002 then 12297 else x.2, decide (r = x.1), true) else bracketS t r
end Go.Proofs.YtdfgecndbfmgnaaDoor
