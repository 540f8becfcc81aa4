/-
  NARROWER THAN 'FOR EVERY INPUT', by the rows' own cells (each row's printed sentence says how): ItemiseScripts: laid · ItemiseRuns: laid · ItemiseTiles: laid · ItemiseParts: laid · ItemiseKnown: laid.
  DERIVED. THE GIVEN ROWS OF THIS SEAT. 5 by the template 'for every input the law returns true; each argument reads behind the call as it read before'; 0 by the template 'total and deterministic' (their statements: YtkcmemldhbifdaaDoorTotals.lean).
  GIVEN WITH THE SEED: the statements are not yours to turn. If you find one false, say at which input.
  Laid BY PROGRAM, IN A SANDBOX (cutbox-rows.mjs): the forced cells as the released guide's own fill.sh prints them over the translation adbc5d8344cee80c… (all of the seat's roots in one cut). By AI agents, Wed Nov 11 2026. No macro, syntax, notation, axiom, sorry.
-/
import Derived.Test.YtkcmemldhbifdaaDoorChecked
import GoSem.Claim
import GoSem.ClaimJoined
import GoSem.ClaimMapViews
import Derived.JoinedTies
import Derived.KernelRfl
namespace Go.Proofs.YtkcmemldhbifdaaDoor
/- THE CELL 'sum', in the pinned program and in every row, IS THE sha256 OF THE DUMP (.gsa) THAT YtkcmemldhbifdaaDoorProg.lean LOADS. Nothing in Lean hashes anything: it is a label: what it is worth is what the hold of that sum in a sandbox is worth. -/
noncomputable def Tryd.pinned : Pinned := { name := "ytkcmemldhbifdaadoor", sum := "adbc5d8344cee80cf1435ff05bd67bd9c43b7113bc57c90b6a32af012e43f0b9", checked := Tryd.checked }
namespace Rows
def none {H : Type} : Left H := { results := [], args := [] }

/- WHAT THE LISTED PACKAGE-LEVEL VARIABLES READ AS WHEN THE CALL BEGINS. Each datum BY PROGRAM (the guide's laid-datum.mjs) off the statement by which the dump's own 'gosem.cut.vars' lays the variable. In a bare row this is a premise. The card (YtkcmemldhbifdaaDoorCards.lean) ties it to the program's text. -/
def laid_calamus_ucd_mirrors {H : Type} : DataW H := .agg [.lit (.int .i32 40), .lit (.int .i32 41), .lit (.int .i32 91), .lit (.int .i32 93), .lit (.int .i32 123), .lit (.int .i32 125), .lit (.int .i32 8261), .lit (.int .i32 8262), .lit (.int .i32 8317), .lit (.int .i32 8318), .lit (.int .i32 8333), .lit (.int .i32 8334), .lit (.int .i32 8968), .lit (.int .i32 8969), .lit (.int .i32 8970), .lit (.int .i32 8971), .lit (.int .i32 9001), .lit (.int .i32 9002), .lit (.int .i32 10214), .lit (.int .i32 10215), .lit (.int .i32 10216), .lit (.int .i32 10217), .lit (.int .i32 10218), .lit (.int .i32 10219), .lit (.int .i32 10220), .lit (.int .i32 10221), .lit (.int .i32 10222), .lit (.int .i32 10223), .lit (.int .i32 12296), .lit (.int .i32 12297), .lit (.int .i32 12298), .lit (.int .i32 12299), .lit (.int .i32 12300), .lit (.int .i32 12301), .lit (.int .i32 12302), .lit (.int .i32 12303), .lit (.int .i32 12304), .lit (.int .i32 12305), .lit (.int .i32 12308), .lit (.int .i32 12309), .lit (.int .i32 12310), .lit (.int .i32 12311), .lit (.int .i32 12312), .lit (.int .i32 12313), .lit (.int .i32 12314), .lit (.int .i32 12315), .lit (.int .i32 60), .lit (.int .i32 62), .lit (.int .i32 171), .lit (.int .i32 187), .lit (.int .i32 8249), .lit (.int .i32 8250), .lit (.int .i32 8712), .lit (.int .i32 8715), .lit (.int .i32 8804), .lit (.int .i32 8805), .lit (.int .i32 8810), .lit (.int .i32 8811), .lit (.int .i32 8834), .lit (.int .i32 8835)]

/-- 'calamuslaw14.ItemiseScripts': WHATEVER THE INPUT: true; the input reads as it did. -/
def itemiseScriptsSpec : ChangeSpec := { name := "itemiseScripts", fn := fun _ => fun
  | [d] => { results := [.lit (.bool true)], args := [d] }
  | _ => none }
def itemiseScriptsRow : OpenClaim := { program := "ytkcmemldhbifdaadoor", sum := "adbc5d8344cee80cf1435ff05bd67bd9c43b7113bc57c90b6a32af012e43f0b9", func := "calamus/calamuslaw14.ItemiseScripts", spec := "itemiseScripts", unfollowed := true, recurses := true, named := ["calamus/ucd.mirrors"], apart := false, laid := [("calamus/ucd.mirrors", laid_calamus_ucd_mirrors)] }
def ItemiseScriptsSaid : Prop := itemiseScriptsRow.holds Tryd.pinned (OpenSpec.ofChange itemiseScriptsSpec)

/-- ITS FALSE NEIGHBOUR: 'it returns false'. Refute it at one input. -/
def itemiseScriptsWrong : ChangeSpec := { name := "itemiseScripts", fn := fun _ => fun
  | [d] => { results := [.lit (.bool false)], args := [d] }
  | _ => none }
def ItemiseScriptsWrongFalsely : Prop := itemiseScriptsRow.holds Tryd.pinned (OpenSpec.ofChange itemiseScriptsWrong)

/-- 'calamuslaw14.ItemiseRuns': WHATEVER THE INPUT: true; the input reads as it did. -/
def itemiseRunsSpec : ChangeSpec := { name := "itemiseRuns", fn := fun _ => fun
  | [d1, d2] => { results := [.lit (.bool true)], args := [d1, d2] }
  | _ => none }
def itemiseRunsRow : OpenClaim := { program := "ytkcmemldhbifdaadoor", sum := "adbc5d8344cee80cf1435ff05bd67bd9c43b7113bc57c90b6a32af012e43f0b9", func := "calamus/calamuslaw14.ItemiseRuns", spec := "itemiseRuns", unfollowed := true, recurses := true, named := ["calamus/ucd.mirrors"], apart := false, laid := [("calamus/ucd.mirrors", laid_calamus_ucd_mirrors)] }
def ItemiseRunsSaid : Prop := itemiseRunsRow.holds Tryd.pinned (OpenSpec.ofChange itemiseRunsSpec)

/-- ITS FALSE NEIGHBOUR: 'it returns false'. Refute it at one input. -/
def itemiseRunsWrong : ChangeSpec := { name := "itemiseRuns", fn := fun _ => fun
  | [d1, d2] => { results := [.lit (.bool false)], args := [d1, d2] }
  | _ => none }
def ItemiseRunsWrongFalsely : Prop := itemiseRunsRow.holds Tryd.pinned (OpenSpec.ofChange itemiseRunsWrong)

/-- 'calamuslaw14.ItemiseTiles': WHATEVER THE INPUT: true; the input reads as it did. -/
def itemiseTilesSpec : ChangeSpec := { name := "itemiseTiles", fn := fun _ => fun
  | [d1, d2] => { results := [.lit (.bool true)], args := [d1, d2] }
  | _ => none }
def itemiseTilesRow : OpenClaim := { program := "ytkcmemldhbifdaadoor", sum := "adbc5d8344cee80cf1435ff05bd67bd9c43b7113bc57c90b6a32af012e43f0b9", func := "calamus/calamuslaw14.ItemiseTiles", spec := "itemiseTiles", unfollowed := true, recurses := true, named := ["calamus/ucd.mirrors"], apart := false, laid := [("calamus/ucd.mirrors", laid_calamus_ucd_mirrors)] }
def ItemiseTilesSaid : Prop := itemiseTilesRow.holds Tryd.pinned (OpenSpec.ofChange itemiseTilesSpec)

/-- ITS FALSE NEIGHBOUR: 'it returns false'. Refute it at one input. -/
def itemiseTilesWrong : ChangeSpec := { name := "itemiseTiles", fn := fun _ => fun
  | [d1, d2] => { results := [.lit (.bool false)], args := [d1, d2] }
  | _ => none }
def ItemiseTilesWrongFalsely : Prop := itemiseTilesRow.holds Tryd.pinned (OpenSpec.ofChange itemiseTilesWrong)

/-- 'calamuslaw14.ItemiseParts': WHATEVER THE INPUT: true; the input reads as it did. -/
def itemisePartsSpec : ChangeSpec := { name := "itemiseParts", fn := fun _ => fun
  | [d1, d2, d3] => { results := [.lit (.bool true)], args := [d1, d2, d3] }
  | _ => none }
def itemisePartsRow : OpenClaim := { program := "ytkcmemldhbifdaadoor", sum := "adbc5d8344cee80cf1435ff05bd67bd9c43b7113bc57c90b6a32af012e43f0b9", func := "calamus/calamuslaw14.ItemiseParts", spec := "itemiseParts", unfollowed := true, recurses := true, named := ["calamus/ucd.mirrors"], apart := false, laid := [("calamus/ucd.mirrors", laid_calamus_ucd_mirrors)] }
def ItemisePartsSaid : Prop := itemisePartsRow.holds Tryd.pinned (OpenSpec.ofChange itemisePartsSpec)

/-- ITS FALSE NEIGHBOUR: 'it returns false'. Refute it at one input. -/
def itemisePartsWrong : ChangeSpec := { name := "itemiseParts", fn := fun _ => fun
  | [d1, d2, d3] => { results := [.lit (.bool false)], args := [d1, d2, d3] }
  | _ => none }
def ItemisePartsWrongFalsely : Prop := itemisePartsRow.holds Tryd.pinned (OpenSpec.ofChange itemisePartsWrong)

/-- 'calamuslaw14.ItemiseKnown': WHATEVER THE INPUT: true; the input reads as it did. -/
def itemiseKnownSpec : ChangeSpec := { name := "itemiseKnown", fn := fun _ => fun
  | [] => { results := [.lit (.bool true)], args := [] }
  | _ => none }
def itemiseKnownRow : OpenClaim := { program := "ytkcmemldhbifdaadoor", sum := "adbc5d8344cee80cf1435ff05bd67bd9c43b7113bc57c90b6a32af012e43f0b9", func := "calamus/calamuslaw14.ItemiseKnown", spec := "itemiseKnown", unfollowed := true, recurses := true, named := ["calamus/ucd.mirrors"], apart := false, laid := [("calamus/ucd.mirrors", laid_calamus_ucd_mirrors)] }
def ItemiseKnownSaid : Prop := itemiseKnownRow.holds Tryd.pinned (OpenSpec.ofChange itemiseKnownSpec)

/-- ITS FALSE NEIGHBOUR: 'it returns false'. Refute it at one input. -/
def itemiseKnownWrong : ChangeSpec := { name := "itemiseKnown", fn := fun _ => fun
  | [] => { results := [.lit (.bool false)], args := [] }
  | _ => none }
def ItemiseKnownWrongFalsely : Prop := itemiseKnownRow.holds Tryd.pinned (OpenSpec.ofChange itemiseKnownWrong)

/- THE SECOND FORM. 'bulk': how many values and letters a reading holds, each counted each time it is reached (what is shared counts as often as it is met; a slice's spare places count too). A statement '..UptoSaid' is the law's where the arguments, and the package variables that the reading takes, are together of bulk at most 1048576: NARROWER than '..Said'. Prove '..Said' where nothing that the law and all that it calls make is longer than what came in: it says more and counts as full. Else prove '..UptoSaid'. A law counts once. -/
mutual
def uptoBulk {H : Type} : DataW H → Nat
  | .lit (.string bytes) => bytes.length + 1
  | .lit _ => 1
  | .nil => 1
  | .ptr d => uptoBulk d + 1
  | .slice elems spare => uptoBulkAll elems + uptoBulkAll spare + 1
  | .agg parts => uptoBulkAll parts + 1
  | .iface _ d => uptoBulk d + 1
  | .map entries => uptoBulkEntries entries + 1
  | .held _ => 1
def uptoBulkAll {H : Type} : List (DataW H) → Nat
  | [] => 0
  | d :: r => uptoBulk d + uptoBulkAll r
def uptoBulkEntries {H : Type} : List (Lit × DataW H) → Nat
  | [] => 0
  | x :: r => uptoBulkEntry x + uptoBulkEntries r
def uptoBulkEntry {H : Type} : Lit × DataW H → Nat
  | (.string bytes, d) => bytes.length + uptoBulk d + 1
  | (_, d) => uptoBulk d + 1
 end
def uptoSmall : (H : Type) → List (DataW H) → Bool := fun _ ds => decide (uptoBulkAll ds ≤ 1048576)
def OpenSpec.upto (s : _root_.Go.ChangeSpec) : _root_.Go.OpenSpec := { _root_.Go.OpenSpec.ofChange s with cond := some uptoSmall }

/-- 'calamuslaw14.ItemiseScripts', WHERE WHAT IT READS IS OF BULK AT MOST 1048576: true; the input reads as it did. -/
def itemiseScriptsUptoRow : OpenClaim := { program := "ytkcmemldhbifdaadoor", sum := "adbc5d8344cee80cf1435ff05bd67bd9c43b7113bc57c90b6a32af012e43f0b9", func := "calamus/calamuslaw14.ItemiseScripts", spec := "itemiseScripts", unfollowed := true, recurses := true, named := ["calamus/ucd.mirrors"], apart := false, laid := [("calamus/ucd.mirrors", laid_calamus_ucd_mirrors)], narrowed := true }
def ItemiseScriptsUptoSaid : Prop := itemiseScriptsUptoRow.holds Tryd.pinned (OpenSpec.upto itemiseScriptsSpec)

/-- 'calamuslaw14.ItemiseRuns', WHERE WHAT IT READS IS OF BULK AT MOST 1048576: true; the input reads as it did. -/
def itemiseRunsUptoRow : OpenClaim := { program := "ytkcmemldhbifdaadoor", sum := "adbc5d8344cee80cf1435ff05bd67bd9c43b7113bc57c90b6a32af012e43f0b9", func := "calamus/calamuslaw14.ItemiseRuns", spec := "itemiseRuns", unfollowed := true, recurses := true, named := ["calamus/ucd.mirrors"], apart := false, laid := [("calamus/ucd.mirrors", laid_calamus_ucd_mirrors)], narrowed := true }
def ItemiseRunsUptoSaid : Prop := itemiseRunsUptoRow.holds Tryd.pinned (OpenSpec.upto itemiseRunsSpec)

/-- 'calamuslaw14.ItemiseTiles', WHERE WHAT IT READS IS OF BULK AT MOST 1048576: true; the input reads as it did. -/
def itemiseTilesUptoRow : OpenClaim := { program := "ytkcmemldhbifdaadoor", sum := "adbc5d8344cee80cf1435ff05bd67bd9c43b7113bc57c90b6a32af012e43f0b9", func := "calamus/calamuslaw14.ItemiseTiles", spec := "itemiseTiles", unfollowed := true, recurses := true, named := ["calamus/ucd.mirrors"], apart := false, laid := [("calamus/ucd.mirrors", laid_calamus_ucd_mirrors)], narrowed := true }
def ItemiseTilesUptoSaid : Prop := itemiseTilesUptoRow.holds Tryd.pinned (OpenSpec.upto itemiseTilesSpec)

/-- 'calamuslaw14.ItemiseParts', WHERE WHAT IT READS IS OF BULK AT MOST 1048576: true; the input reads as it did. -/
def itemisePartsUptoRow : OpenClaim := { program := "ytkcmemldhbifdaadoor", sum := "adbc5d8344cee80cf1435ff05bd67bd9c43b7113bc57c90b6a32af012e43f0b9", func := "calamus/calamuslaw14.ItemiseParts", spec := "itemiseParts", unfollowed := true, recurses := true, named := ["calamus/ucd.mirrors"], apart := false, laid := [("calamus/ucd.mirrors", laid_calamus_ucd_mirrors)], narrowed := true }
def ItemisePartsUptoSaid : Prop := itemisePartsUptoRow.holds Tryd.pinned (OpenSpec.upto itemisePartsSpec)

/-- 'calamuslaw14.ItemiseKnown', WHERE WHAT IT READS IS OF BULK AT MOST 1048576: true; the input reads as it did. -/
def itemiseKnownUptoRow : OpenClaim := { program := "ytkcmemldhbifdaadoor", sum := "adbc5d8344cee80cf1435ff05bd67bd9c43b7113bc57c90b6a32af012e43f0b9", func := "calamus/calamuslaw14.ItemiseKnown", spec := "itemiseKnown", unfollowed := true, recurses := true, named := ["calamus/ucd.mirrors"], apart := false, laid := [("calamus/ucd.mirrors", laid_calamus_ucd_mirrors)], narrowed := true }
def ItemiseKnownUptoSaid : Prop := itemiseKnownUptoRow.holds Tryd.pinned (OpenSpec.upto itemiseKnownSpec)

end Rows
end Go.Proofs.YtkcmemldhbifdaaDoor
