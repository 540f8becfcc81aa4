/-
  NARROWER THAN 'FOR EVERY INPUT', by the rows' own cells (each row's printed sentence says how): UcdTables: laid · UcdBrackets: laid · UcdDecodes: laid · UcdBack: laid · UcdHolds: laid · UcdKnown: laid.
  DERIVED. THE GIVEN ROWS OF THIS SEAT. 6 by the template 'for every input the law returns true; each argument reads behind the call as it read before'; 0 by the template 'total and deterministic' (their statements: YtjpdhfolfmamcaaDoorTotals.lean).
  GIVEN WITH THE SEED: the statements are not yours to turn. If you find one false, say at which input.
  Laid BY PROGRAM, IN A SANDBOX (cutbox-rows.mjs): the forced cells as the released guide's own fill.sh prints them over the translation f0c3a12a1597dae4… (all of the seat's roots in one cut). By AI agents, Wed Nov 11 2026. No macro, syntax, notation, axiom, sorry.
-/
import Derived.Test.YtjpdhfolfmamcaaDoorChecked
import GoSem.PinnedTables
import GoSem.Claim
import GoSem.ClaimJoined
import GoSem.ClaimMapViews
import Derived.JoinedTies
import Derived.KernelRfl
namespace Go.Proofs.YtjpdhfolfmamcaaDoor
/- THE CELL 'sum', in the pinned program and in every row, IS THE sha256 OF THE DUMP (.gsa) THAT YtjpdhfolfmamcaaDoorProg.lean LOADS. Nothing in Lean hashes anything: it is a label: what it is worth is what the hold of that sum in a sandbox is worth. -/
noncomputable def Tryd.pinned : Pinned := { name := "ytjpdhfolfmamcaadoor", sum := "f0c3a12a1597dae4fe35be96f55c625339440ecb89358e26959fd6a9b2571c89", checked := Tryd.checked }
namespace Rows
def none {H : Type} : Left H := { results := [], args := [] }

/- WHAT THE LISTED PACKAGE-LEVEL VARIABLES READ AS WHEN THE CALL BEGINS. Each datum BY PROGRAM (the guide's laid-datum.mjs) off the statement by which the dump's own 'gosem.cut.vars' lays the variable. In a bare row this is a premise. The card (YtjpdhfolfmamcaaDoorCards.lean) ties it to the program's text. -/
def laid_unicode_utf8_acceptRanges {H : Type} : DataW H := .agg [.agg [.lit (.int .u8 128), .lit (.int .u8 191)], .agg [.lit (.int .u8 160), .lit (.int .u8 191)], .agg [.lit (.int .u8 128), .lit (.int .u8 159)], .agg [.lit (.int .u8 144), .lit (.int .u8 191)], .agg [.lit (.int .u8 128), .lit (.int .u8 143)], .agg [.lit (.int .u8 0), .lit (.int .u8 0)], .agg [.lit (.int .u8 0), .lit (.int .u8 0)], .agg [.lit (.int .u8 0), .lit (.int .u8 0)], .agg [.lit (.int .u8 0), .lit (.int .u8 0)], .agg [.lit (.int .u8 0), .lit (.int .u8 0)], .agg [.lit (.int .u8 0), .lit (.int .u8 0)], .agg [.lit (.int .u8 0), .lit (.int .u8 0)], .agg [.lit (.int .u8 0), .lit (.int .u8 0)], .agg [.lit (.int .u8 0), .lit (.int .u8 0)], .agg [.lit (.int .u8 0), .lit (.int .u8 0)], .agg [.lit (.int .u8 0), .lit (.int .u8 0)]]
/-- One of Go's own tables, pinned by name: the form's constant. -/
def laid_unicode_utf8_first : DataW Unit := Go.Pinned.utf8First
def laid_calamus_ucd_mirrors {H : Type} : DataW H := .agg [.lit (.int .i32 40), .lit (.int .i32 41), .lit (.int .i32 91), .lit (.int .i32 93), .lit (.int .i32 123), .lit (.int .i32 125), .lit (.int .i32 8261), .lit (.int .i32 8262), .lit (.int .i32 8317), .lit (.int .i32 8318), .lit (.int .i32 8333), .lit (.int .i32 8334), .lit (.int .i32 8968), .lit (.int .i32 8969), .lit (.int .i32 8970), .lit (.int .i32 8971), .lit (.int .i32 9001), .lit (.int .i32 9002), .lit (.int .i32 10214), .lit (.int .i32 10215), .lit (.int .i32 10216), .lit (.int .i32 10217), .lit (.int .i32 10218), .lit (.int .i32 10219), .lit (.int .i32 10220), .lit (.int .i32 10221), .lit (.int .i32 10222), .lit (.int .i32 10223), .lit (.int .i32 12296), .lit (.int .i32 12297), .lit (.int .i32 12298), .lit (.int .i32 12299), .lit (.int .i32 12300), .lit (.int .i32 12301), .lit (.int .i32 12302), .lit (.int .i32 12303), .lit (.int .i32 12304), .lit (.int .i32 12305), .lit (.int .i32 12308), .lit (.int .i32 12309), .lit (.int .i32 12310), .lit (.int .i32 12311), .lit (.int .i32 12312), .lit (.int .i32 12313), .lit (.int .i32 12314), .lit (.int .i32 12315), .lit (.int .i32 60), .lit (.int .i32 62), .lit (.int .i32 171), .lit (.int .i32 187), .lit (.int .i32 8249), .lit (.int .i32 8250), .lit (.int .i32 8712), .lit (.int .i32 8715), .lit (.int .i32 8804), .lit (.int .i32 8805), .lit (.int .i32 8810), .lit (.int .i32 8811), .lit (.int .i32 8834), .lit (.int .i32 8835)]

/-- 'calamuslaw02.UcdTables': WHATEVER THE INPUT: true; the input reads as it did. -/
def ucdTablesSpec : ChangeSpec := { name := "ucdTables", fn := fun _ => fun
  | [d1, d2, d3] => { results := [.lit (.bool true)], args := [d1, d2, d3] }
  | _ => none }
def ucdTablesRow : OpenClaim := { program := "ytjpdhfolfmamcaadoor", sum := "f0c3a12a1597dae4fe35be96f55c625339440ecb89358e26959fd6a9b2571c89", func := "calamus/calamuslaw02.UcdTables", spec := "ucdTables", named := ["unicode/utf8.first", "unicode/utf8.acceptRanges"], apart := false, laid := [("unicode/utf8.acceptRanges", laid_unicode_utf8_acceptRanges), ("unicode/utf8.first", laid_unicode_utf8_first)] }
def UcdTablesSaid : Prop := ucdTablesRow.holds Tryd.pinned (OpenSpec.ofChange ucdTablesSpec)

/-- ITS FALSE NEIGHBOUR: 'it returns false'. Refute it at one input. -/
def ucdTablesWrong : ChangeSpec := { name := "ucdTables", fn := fun _ => fun
  | [d1, d2, d3] => { results := [.lit (.bool false)], args := [d1, d2, d3] }
  | _ => none }
def UcdTablesWrongFalsely : Prop := ucdTablesRow.holds Tryd.pinned (OpenSpec.ofChange ucdTablesWrong)

/-- 'calamuslaw02.UcdBrackets': WHATEVER THE INPUT: true; the input reads as it did. -/
def ucdBracketsSpec : ChangeSpec := { name := "ucdBrackets", fn := fun _ => fun
  | [d] => { results := [.lit (.bool true)], args := [d] }
  | _ => none }
def ucdBracketsRow : OpenClaim := { program := "ytjpdhfolfmamcaadoor", sum := "f0c3a12a1597dae4fe35be96f55c625339440ecb89358e26959fd6a9b2571c89", func := "calamus/calamuslaw02.UcdBrackets", spec := "ucdBrackets", named := ["calamus/ucd.mirrors", "unicode/utf8.first", "unicode/utf8.acceptRanges"], apart := false, laid := [("unicode/utf8.acceptRanges", laid_unicode_utf8_acceptRanges), ("calamus/ucd.mirrors", laid_calamus_ucd_mirrors), ("unicode/utf8.first", laid_unicode_utf8_first)] }
def UcdBracketsSaid : Prop := ucdBracketsRow.holds Tryd.pinned (OpenSpec.ofChange ucdBracketsSpec)

/-- ITS FALSE NEIGHBOUR: 'it returns false'. Refute it at one input. -/
def ucdBracketsWrong : ChangeSpec := { name := "ucdBrackets", fn := fun _ => fun
  | [d] => { results := [.lit (.bool false)], args := [d] }
  | _ => none }
def UcdBracketsWrongFalsely : Prop := ucdBracketsRow.holds Tryd.pinned (OpenSpec.ofChange ucdBracketsWrong)

/-- 'calamuslaw02.UcdDecodes': WHATEVER THE INPUT: true; the input reads as it did. -/
def ucdDecodesSpec : ChangeSpec := { name := "ucdDecodes", fn := fun _ => fun
  | [d] => { results := [.lit (.bool true)], args := [d] }
  | _ => none }
def ucdDecodesRow : OpenClaim := { program := "ytjpdhfolfmamcaadoor", sum := "f0c3a12a1597dae4fe35be96f55c625339440ecb89358e26959fd6a9b2571c89", func := "calamus/calamuslaw02.UcdDecodes", spec := "ucdDecodes", named := ["unicode/utf8.first", "unicode/utf8.acceptRanges"], apart := false, laid := [("unicode/utf8.acceptRanges", laid_unicode_utf8_acceptRanges), ("unicode/utf8.first", laid_unicode_utf8_first)] }
def UcdDecodesSaid : Prop := ucdDecodesRow.holds Tryd.pinned (OpenSpec.ofChange ucdDecodesSpec)

/-- ITS FALSE NEIGHBOUR: 'it returns false'. Refute it at one input. -/
def ucdDecodesWrong : ChangeSpec := { name := "ucdDecodes", fn := fun _ => fun
  | [d] => { results := [.lit (.bool false)], args := [d] }
  | _ => none }
def UcdDecodesWrongFalsely : Prop := ucdDecodesRow.holds Tryd.pinned (OpenSpec.ofChange ucdDecodesWrong)

/-- 'calamuslaw02.UcdBack': WHATEVER THE INPUT: true; the input reads as it did. -/
def ucdBackSpec : ChangeSpec := { name := "ucdBack", fn := fun _ => fun
  | [d1, d2] => { results := [.lit (.bool true)], args := [d1, d2] }
  | _ => none }
def ucdBackRow : OpenClaim := { program := "ytjpdhfolfmamcaadoor", sum := "f0c3a12a1597dae4fe35be96f55c625339440ecb89358e26959fd6a9b2571c89", func := "calamus/calamuslaw02.UcdBack", spec := "ucdBack", named := ["unicode/utf8.first", "unicode/utf8.acceptRanges"], apart := false, laid := [("unicode/utf8.acceptRanges", laid_unicode_utf8_acceptRanges), ("unicode/utf8.first", laid_unicode_utf8_first)] }
def UcdBackSaid : Prop := ucdBackRow.holds Tryd.pinned (OpenSpec.ofChange ucdBackSpec)

/-- ITS FALSE NEIGHBOUR: 'it returns false'. Refute it at one input. -/
def ucdBackWrong : ChangeSpec := { name := "ucdBack", fn := fun _ => fun
  | [d1, d2] => { results := [.lit (.bool false)], args := [d1, d2] }
  | _ => none }
def UcdBackWrongFalsely : Prop := ucdBackRow.holds Tryd.pinned (OpenSpec.ofChange ucdBackWrong)

/-- 'calamuslaw02.UcdHolds': WHATEVER THE INPUT: true; the input reads as it did. -/
def ucdHoldsSpec : ChangeSpec := { name := "ucdHolds", fn := fun _ => fun
  | [d] => { results := [.lit (.bool true)], args := [d] }
  | _ => none }
def ucdHoldsRow : OpenClaim := { program := "ytjpdhfolfmamcaadoor", sum := "f0c3a12a1597dae4fe35be96f55c625339440ecb89358e26959fd6a9b2571c89", func := "calamus/calamuslaw02.UcdHolds", spec := "ucdHolds", named := ["calamus/ucd.mirrors", "unicode/utf8.first", "unicode/utf8.acceptRanges"], apart := false, laid := [("unicode/utf8.acceptRanges", laid_unicode_utf8_acceptRanges), ("calamus/ucd.mirrors", laid_calamus_ucd_mirrors), ("unicode/utf8.first", laid_unicode_utf8_first)] }
def UcdHoldsSaid : Prop := ucdHoldsRow.holds Tryd.pinned (OpenSpec.ofChange ucdHoldsSpec)

/-- ITS FALSE NEIGHBOUR: 'it returns false'. Refute it at one input. -/
def ucdHoldsWrong : ChangeSpec := { name := "ucdHolds", fn := fun _ => fun
  | [d] => { results := [.lit (.bool false)], args := [d] }
  | _ => none }
def UcdHoldsWrongFalsely : Prop := ucdHoldsRow.holds Tryd.pinned (OpenSpec.ofChange ucdHoldsWrong)

/-- 'calamuslaw02.UcdKnown': WHATEVER THE INPUT: true; the input reads as it did. -/
def ucdKnownSpec : ChangeSpec := { name := "ucdKnown", fn := fun _ => fun
  | [] => { results := [.lit (.bool true)], args := [] }
  | _ => none }
def ucdKnownRow : OpenClaim := { program := "ytjpdhfolfmamcaadoor", sum := "f0c3a12a1597dae4fe35be96f55c625339440ecb89358e26959fd6a9b2571c89", func := "calamus/calamuslaw02.UcdKnown", spec := "ucdKnown", named := ["calamus/ucd.mirrors", "unicode/utf8.first", "unicode/utf8.acceptRanges"], apart := false, laid := [("unicode/utf8.acceptRanges", laid_unicode_utf8_acceptRanges), ("calamus/ucd.mirrors", laid_calamus_ucd_mirrors), ("unicode/utf8.first", laid_unicode_utf8_first)] }
def UcdKnownSaid : Prop := ucdKnownRow.holds Tryd.pinned (OpenSpec.ofChange ucdKnownSpec)

/-- ITS FALSE NEIGHBOUR: 'it returns false'. Refute it at one input. -/
def ucdKnownWrong : ChangeSpec := { name := "ucdKnown", fn := fun _ => fun
  | [] => { results := [.lit (.bool false)], args := [] }
  | _ => none }
def UcdKnownWrongFalsely : Prop := ucdKnownRow.holds Tryd.pinned (OpenSpec.ofChange ucdKnownWrong)

/- THE SECOND FORM. 'bulk': how many values and letters a reading holds, each counted each time it is reached (what is shared counts as often as it is met; a slice's spare places count too). A statement '..UptoSaid' is the law's where the arguments, and the package variables that the reading takes, are together of bulk at most 1048576: NARROWER than '..Said'. Prove '..Said' where nothing that the law and all that it calls make is longer than what came in: it says more and counts as full. Else prove '..UptoSaid'. A law counts once. -/
mutual
def uptoBulk {H : Type} : DataW H → Nat
  | .lit (.string bytes) => bytes.length + 1
  | .lit _ => 1
  | .nil => 1
  | .ptr d => uptoBulk d + 1
  | .slice elems spare => uptoBulkAll elems + uptoBulkAll spare + 1
  | .agg parts => uptoBulkAll parts + 1
  | .iface _ d => uptoBulk d + 1
  | .map entries => uptoBulkEntries entries + 1
  | .held _ => 1
def uptoBulkAll {H : Type} : List (DataW H) → Nat
  | [] => 0
  | d :: r => uptoBulk d + uptoBulkAll r
def uptoBulkEntries {H : Type} : List (Lit × DataW H) → Nat
  | [] => 0
  | x :: r => uptoBulkEntry x + uptoBulkEntries r
def uptoBulkEntry {H : Type} : Lit × DataW H → Nat
  | (.string bytes, d) => bytes.length + uptoBulk d + 1
  | (_, d) => uptoBulk d + 1
 end
def uptoSmall : (H : Type) → List (DataW H) → Bool := fun _ ds => decide (uptoBulkAll ds ≤ 1048576)
def OpenSpec.upto (s : _root_.Go.ChangeSpec) : _root_.Go.OpenSpec := { _root_.Go.OpenSpec.ofChange s with cond := some uptoSmall }

/-- 'calamuslaw02.UcdTables', WHERE WHAT IT READS IS OF BULK AT MOST 1048576: true; the input reads as it did. -/
def ucdTablesUptoRow : OpenClaim := { program := "ytjpdhfolfmamcaadoor", sum := "f0c3a12a1597dae4fe35be96f55c625339440ecb89358e26959fd6a9b2571c89", func := "calamus/calamuslaw02.UcdTables", spec := "ucdTables", named := ["unicode/utf8.first", "unicode/utf8.acceptRanges"], apart := false, laid := [("unicode/utf8.acceptRanges", laid_unicode_utf8_acceptRanges), ("unicode/utf8.first", laid_unicode_utf8_first)], narrowed := true }
def UcdTablesUptoSaid : Prop := ucdTablesUptoRow.holds Tryd.pinned (OpenSpec.upto ucdTablesSpec)

/-- 'calamuslaw02.UcdBrackets', WHERE WHAT IT READS IS OF BULK AT MOST 1048576: true; the input reads as it did. -/
def ucdBracketsUptoRow : OpenClaim := { program := "ytjpdhfolfmamcaadoor", sum := "f0c3a12a1597dae4fe35be96f55c625339440ecb89358e26959fd6a9b2571c89", func := "calamus/calamuslaw02.UcdBrackets", spec := "ucdBrackets", named := ["calamus/ucd.mirrors", "unicode/utf8.first", "unicode/utf8.acceptRanges"], apart := false, laid := [("unicode/utf8.acceptRanges", laid_unicode_utf8_acceptRanges), ("calamus/ucd.mirrors", laid_calamus_ucd_mirrors), ("unicode/utf8.first", laid_unicode_utf8_first)], narrowed := true }
def UcdBracketsUptoSaid : Prop := ucdBracketsUptoRow.holds Tryd.pinned (OpenSpec.upto ucdBracketsSpec)

/-- 'calamuslaw02.UcdDecodes', WHERE WHAT IT READS IS OF BULK AT MOST 1048576: true; the input reads as it did. -/
def ucdDecodesUptoRow : OpenClaim := { program := "ytjpdhfolfmamcaadoor", sum := "f0c3a12a1597dae4fe35be96f55c625339440ecb89358e26959fd6a9b2571c89", func := "calamus/calamuslaw02.UcdDecodes", spec := "ucdDecodes", named := ["unicode/utf8.first", "unicode/utf8.acceptRanges"], apart := false, laid := [("unicode/utf8.acceptRanges", laid_unicode_utf8_acceptRanges), ("unicode/utf8.first", laid_unicode_utf8_first)], narrowed := true }
def UcdDecodesUptoSaid : Prop := ucdDecodesUptoRow.holds Tryd.pinned (OpenSpec.upto ucdDecodesSpec)

/-- 'calamuslaw02.UcdBack', WHERE WHAT IT READS IS OF BULK AT MOST 1048576: true; the input reads as it did. -/
def ucdBackUptoRow : OpenClaim := { program := "ytjpdhfolfmamcaadoor", sum := "f0c3a12a1597dae4fe35be96f55c625339440ecb89358e26959fd6a9b2571c89", func := "calamus/calamuslaw02.UcdBack", spec := "ucdBack", named := ["unicode/utf8.first", "unicode/utf8.acceptRanges"], apart := false, laid := [("unicode/utf8.acceptRanges", laid_unicode_utf8_acceptRanges), ("unicode/utf8.first", laid_unicode_utf8_first)], narrowed := true }
def UcdBackUptoSaid : Prop := ucdBackUptoRow.holds Tryd.pinned (OpenSpec.upto ucdBackSpec)

/-- 'calamuslaw02.UcdHolds', WHERE WHAT IT READS IS OF BULK AT MOST 1048576: true; the input reads as it did. -/
def ucdHoldsUptoRow : OpenClaim := { program := "ytjpdhfolfmamcaadoor", sum := "f0c3a12a1597dae4fe35be96f55c625339440ecb89358e26959fd6a9b2571c89", func := "calamus/calamuslaw02.UcdHolds", spec := "ucdHolds", named := ["calamus/ucd.mirrors", "unicode/utf8.first", "unicode/utf8.acceptRanges"], apart := false, laid := [("unicode/utf8.acceptRanges", laid_unicode_utf8_acceptRanges), ("calamus/ucd.mirrors", laid_calamus_ucd_mirrors), ("unicode/utf8.first", laid_unicode_utf8_first)], narrowed := true }
def UcdHoldsUptoSaid : Prop := ucdHoldsUptoRow.holds Tryd.pinned (OpenSpec.upto ucdHoldsSpec)

/-- 'calamuslaw02.UcdKnown', WHERE WHAT IT READS IS OF BULK AT MOST 1048576: true; the input reads as it did. -/
def ucdKnownUptoRow : OpenClaim := { program := "ytjpdhfolfmamcaadoor", sum := "f0c3a12a1597dae4fe35be96f55c625339440ecb89358e26959fd6a9b2571c89", func := "calamus/calamuslaw02.UcdKnown", spec := "ucdKnown", named := ["calamus/ucd.mirrors", "unicode/utf8.first", "unicode/utf8.acceptRanges"], apart := false, laid := [("unicode/utf8.acceptRanges", laid_unicode_utf8_acceptRanges), ("calamus/ucd.mirrors", laid_calamus_ucd_mirrors), ("unicode/utf8.first", laid_unicode_utf8_first)], narrowed := true }
def UcdKnownUptoSaid : Prop := ucdKnownUptoRow.holds Tryd.pinned (OpenSpec.upto ucdKnownSpec)

end Rows
end Go.Proofs.YtjpdhfolfmamcaaDoor
