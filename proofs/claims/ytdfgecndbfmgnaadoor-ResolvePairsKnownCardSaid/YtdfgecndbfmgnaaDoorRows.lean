/-
  NARROWER THAN 'FOR EVERY INPUT', by the rows' own cells (each row's printed sentence says how): ResolveBrackets: laid · ResolvePairsKnown: laid.
  DERIVED. THE GIVEN ROWS OF THIS SEAT. 2 by the template 'for every input the law returns true; each argument reads behind the call as it read before'; 0 by the template 'total and deterministic' (their statements: YtdfgecndbfmgnaaDoorTotals.lean).
  GIVEN WITH THE SEED: the statements are not yours to turn. If you find one false, say at which input.
  Laid BY PROGRAM, IN A SANDBOX (cutbox-rows.mjs): the forced cells as the released guide's own fill.sh prints them over the translation d197770dd2fb54e0… (all of the seat's roots in one cut). By AI agents, Wed Nov 11 2026. No macro, syntax, notation, axiom, sorry.
-/
import Derived.Test.YtdfgecndbfmgnaaDoorChecked
import GoSem.Claim
import GoSem.ClaimJoined
import GoSem.ClaimMapViews
import Derived.JoinedTies
import Derived.KernelRfl
namespace Go.Proofs.YtdfgecndbfmgnaaDoor
/- THE CELL 'sum', in the pinned program and in every row, IS THE sha256 OF THE DUMP (.gsa) THAT YtdfgecndbfmgnaaDoorProg.lean LOADS. Nothing in Lean hashes anything: it is a label: what it is worth is what the hold of that sum in a sandbox is worth. -/
noncomputable def Tryd.pinned : Pinned := { name := "ytdfgecndbfmgnaadoor", sum := "d197770dd2fb54e07ac9b43779cc6ac5fe506de7174c7bb8f09b4f3030db0c5e", checked := Tryd.checked }
namespace Rows
def none {H : Type} : Left H := { results := [], args := [] }

/- WHAT THE LISTED PACKAGE-LEVEL VARIABLES READ AS WHEN THE CALL BEGINS. Each datum BY PROGRAM (the guide's laid-datum.mjs) off the statement by which the dump's own 'gosem.cut.vars' lays the variable. In a bare row this is a premise. The card (YtdfgecndbfmgnaaDoorCards.lean) ties it to the program's text. -/
def laid_calamus_ucd_mirrors {H : Type} : DataW H := .agg [.lit (.int .i32 40), .lit (.int .i32 41), .lit (.int .i32 91), .lit (.int .i32 93), .lit (.int .i32 123), .lit (.int .i32 125), .lit (.int .i32 8261), .lit (.int .i32 8262), .lit (.int .i32 8317), .lit (.int .i32 8318), .lit (.int .i32 8333), .lit (.int .i32 8334), .lit (.int .i32 8968), .lit (.int .i32 8969), .lit (.int .i32 8970), .lit (.int .i32 8971), .lit (.int .i32 9001), .lit (.int .i32 9002), .lit (.int .i32 10214), .lit (.int .i32 10215), .lit (.int .i32 10216), .lit (.int .i32 10217), .lit (.int .i32 10218), .lit (.int .i32 10219), .lit (.int .i32 10220), .lit (.int .i32 10221), .lit (.int .i32 10222), .lit (.int .i32 10223), .lit (.int .i32 12296), .lit (.int .i32 12297), .lit (.int .i32 12298), .lit (.int .i32 12299), .lit (.int .i32 12300), .lit (.int .i32 12301), .lit (.int .i32 12302), .lit (.int .i32 12303), .lit (.int .i32 12304), .lit (.int .i32 12305), .lit (.int .i32 12308), .lit (.int .i32 12309), .lit (.int .i32 12310), .lit (.int .i32 12311), .lit (.int .i32 12312), .lit (.int .i32 12313), .lit (.int .i32 12314), .lit (.int .i32 12315), .lit (.int .i32 60), .lit (.int .i32 62), .lit (.int .i32 171), .lit (.int .i32 187), .lit (.int .i32 8249), .lit (.int .i32 8250), .lit (.int .i32 8712), .lit (.int .i32 8715), .lit (.int .i32 8804), .lit (.int .i32 8805), .lit (.int .i32 8810), .lit (.int .i32 8811), .lit (.int .i32 8834), .lit (.int .i32 8835)]

/-- 'calamuslaw11.ResolveBrackets': WHATEVER THE INPUT: true; the input reads as it did. -/
def resolveBracketsSpec : ChangeSpec := { name := "resolveBrackets", fn := fun _ => fun
  | [d1, d2] => { results := [.lit (.bool true)], args := [d1, d2] }
  | _ => none }
def resolveBracketsRow : OpenClaim := { program := "ytdfgecndbfmgnaadoor", sum := "d197770dd2fb54e07ac9b43779cc6ac5fe506de7174c7bb8f09b4f3030db0c5e", func := "calamus/calamuslaw11.ResolveBrackets", spec := "resolveBrackets", unfollowed := true, recurses := true, named := ["calamus/ucd.mirrors"], apart := false, laid := [("calamus/ucd.mirrors", laid_calamus_ucd_mirrors)] }
def ResolveBracketsSaid : Prop := resolveBracketsRow.holds Tryd.pinned (OpenSpec.ofChange resolveBracketsSpec)

/-- ITS FALSE NEIGHBOUR: 'it returns false'. Refute it at one input. -/
def resolveBracketsWrong : ChangeSpec := { name := "resolveBrackets", fn := fun _ => fun
  | [d1, d2] => { results := [.lit (.bool false)], args := [d1, d2] }
  | _ => none }
def ResolveBracketsWrongFalsely : Prop := resolveBracketsRow.holds Tryd.pinned (OpenSpec.ofChange resolveBracketsWrong)

/-- 'calamuslaw11.ResolvePairsKnown': WHATEVER THE INPUT: true; the input reads as it did. -/
def resolvePairsKnownSpec : ChangeSpec := { name := "resolvePairsKnown", fn := fun _ => fun
  | [] => { results := [.lit (.bool true)], args := [] }
  | _ => none }
def resolvePairsKnownRow : OpenClaim := { program := "ytdfgecndbfmgnaadoor", sum := "d197770dd2fb54e07ac9b43779cc6ac5fe506de7174c7bb8f09b4f3030db0c5e", func := "calamus/calamuslaw11.ResolvePairsKnown", spec := "resolvePairsKnown", unfollowed := true, recurses := true, named := ["calamus/ucd.mirrors"], apart := false, laid := [("calamus/ucd.mirrors", laid_calamus_ucd_mirrors)] }
def ResolvePairsKnownSaid : Prop := resolvePairsKnownRow.holds Tryd.pinned (OpenSpec.ofChange resolvePairsKnownSpec)

/-- ITS FALSE NEIGHBOUR: 'it returns false'. Refute it at one input. -/
def resolvePairsKnownWrong : ChangeSpec := { name := "resolvePairsKnown", fn := fun _ => fun
  | [] => { results := [.lit (.bool false)], args := [] }
  | _ => none }
def ResolvePairsKnownWrongFalsely : Prop := resolvePairsKnownRow.holds Tryd.pinned (OpenSpec.ofChange resolvePairsKnownWrong)

/- THE SECOND FORM. 'bulk': how many values and letters a reading holds, each counted each time it is reached (what is shared counts as often as it is met; a slice's spare places count too). A statement '..UptoSaid' is the law's where the arguments, and the package variables that the reading takes, are together of bulk at most 1048576: NARROWER than '..Said'. Prove '..Said' where nothing that the law and all that it calls make is longer than what came in: it says more and counts as full. Else prove '..UptoSaid'. A law counts once. -/
mutual
def uptoBulk {H : Type} : DataW H → Nat
  | .lit (.string bytes) => bytes.length + 1
  | .lit _ => 1
  | .nil => 1
  | .ptr d => uptoBulk d + 1
  | .slice elems spare => uptoBulkAll elems + uptoBulkAll spare + 1
  | .agg parts => uptoBulkAll parts + 1
  | .iface _ d => uptoBulk d + 1
  | .map entries => uptoBulkEntries entries + 1
  | .held _ => 1
def uptoBulkAll {H : Type} : List (DataW H) → Nat
  | [] => 0
  | d :: r => uptoBulk d + uptoBulkAll r
def uptoBulkEntries {H : Type} : List (Lit × DataW H) → Nat
  | [] => 0
  | x :: r => uptoBulkEntry x + uptoBulkEntries r
def uptoBulkEntry {H : Type} : Lit × DataW H → Nat
  | (.string bytes, d) => bytes.length + uptoBulk d + 1
  | (_, d) => uptoBulk d + 1
 end
def uptoSmall : (H : Type) → List (DataW H) → Bool := fun _ ds => decide (uptoBulkAll ds ≤ 1048576)
def OpenSpec.upto (s : _root_.Go.ChangeSpec) : _root_.Go.OpenSpec := { _root_.Go.OpenSpec.ofChange s with cond := some uptoSmall }

/-- 'calamuslaw11.ResolveBrackets', WHERE WHAT IT READS IS OF BULK AT MOST 1048576: true; the input reads as it did. -/
def resolveBracketsUptoRow : OpenClaim := { program := "ytdfgecndbfmgnaadoor", sum := "d197770dd2fb54e07ac9b43779cc6ac5fe506de7174c7bb8f09b4f3030db0c5e", func := "calamus/calamuslaw11.ResolveBrackets", spec := "resolveBrackets", unfollowed := true, recurses := true, named := ["calamus/ucd.mirrors"], apart := false, laid := [("calamus/ucd.mirrors", laid_calamus_ucd_mirrors)], narrowed := true }
def ResolveBracketsUptoSaid : Prop := resolveBracketsUptoRow.holds Tryd.pinned (OpenSpec.upto resolveBracketsSpec)

/-- 'calamuslaw11.ResolvePairsKnown', WHERE WHAT IT READS IS OF BULK AT MOST 1048576: true; the input reads as it did. -/
def resolvePairsKnownUptoRow : OpenClaim := { program := "ytdfgecndbfmgnaadoor", sum := "d197770dd2fb54e07ac9b43779cc6ac5fe506de7174c7bb8f09b4f3030db0c5e", func := "calamus/calamuslaw11.ResolvePairsKnown", spec := "resolvePairsKnown", unfollowed := true, recurses := true, named := ["calamus/ucd.mirrors"], apart := false, laid := [("calamus/ucd.mirrors", laid_calamus_ucd_mirrors)], narrowed := true }
def ResolvePairsKnownUptoSaid : Prop := resolvePairsKnownUptoRow.holds Tryd.pinned (OpenSpec.upto resolvePairsKnownSpec)

end Rows
end Go.Proofs.YtdfgecndbfmgnaaDoor
