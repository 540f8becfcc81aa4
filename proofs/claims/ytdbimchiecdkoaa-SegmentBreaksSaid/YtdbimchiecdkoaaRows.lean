/-
  No cell of these rows narrows 'for every input' (looked for: loops, veiled, ifaces, maps, wideKeys, modest, calm, conditions, laid).
  DERIVED. THE GIVEN ROWS OF THIS SEAT. 5 by the template 'for every input the law returns true; each argument reads behind the call as it read before'; 0 by the template 'total and deterministic' (their statements: YtdbimchiecdkoaaTotals.lean).
  GIVEN WITH THE SEED: the statements are not yours to turn. If you find one false, say at which input.
  Laid BY PROGRAM, IN A SANDBOX (cutbox-rows.mjs): the forced cells as the released guide's own fill.sh prints them over the translation 3d93c78a0005430f… (all of the seat's roots in one cut). By AI agents, Wed Nov 11 2026. No macro, syntax, notation, axiom, sorry.
-/
import Derived.Test.YtdbimchiecdkoaaChecked
import GoSem.Claim
import GoSem.ClaimJoined
import GoSem.ClaimMapViews
import Derived.JoinedTies
import Derived.KernelRfl
namespace Go.Proofs.Ytdbimchiecdkoaa
/- THE CELL 'sum', in the pinned program and in every row, IS THE sha256 OF THE DUMP (.gsa) THAT YtdbimchiecdkoaaProg.lean LOADS. Nothing in Lean hashes anything: it is a label: what it is worth is what the hold of that sum in a sandbox is worth. -/
noncomputable def Try.pinned : Pinned := { name := "ytdbimchiecdkoaa", sum := "3d93c78a0005430f41ac901ef25eb9a2170608e307827ef0a9be2d126d7f81b9", checked := Try.checked }
namespace Rows
def none {H : Type} : Left H := { results := [], args := [] }

/-- 'calamuslaw13.SegmentBreaks': WHATEVER THE INPUT: true; the input reads as it did. -/
def segmentBreaksSpec : ChangeSpec := { name := "segmentBreaks", fn := fun _ => fun
  | [d] => { results := [.lit (.bool true)], args := [d] }
  | _ => none }
def segmentBreaksRow : OpenClaim := { program := "ytdbimchiecdkoaa", sum := "3d93c78a0005430f41ac901ef25eb9a2170608e307827ef0a9be2d126d7f81b9", func := "calamus/calamuslaw13.SegmentBreaks", spec := "segmentBreaks", unfollowed := true, recurses := true, apart := false }
def SegmentBreaksSaid : Prop := segmentBreaksRow.holds Try.pinned (OpenSpec.ofChange segmentBreaksSpec)

/-- ITS FALSE NEIGHBOUR: 'it returns false'. Refute it at one input. -/
def segmentBreaksWrong : ChangeSpec := { name := "segmentBreaks", fn := fun _ => fun
  | [d] => { results := [.lit (.bool false)], args := [d] }
  | _ => none }
def SegmentBreaksWrongFalsely : Prop := segmentBreaksRow.holds Try.pinned (OpenSpec.ofChange segmentBreaksWrong)

/-- 'calamuslaw13.SegmentMusts': WHATEVER THE INPUT: true; the input reads as it did. -/
def segmentMustsSpec : ChangeSpec := { name := "segmentMusts", fn := fun _ => fun
  | [d] => { results := [.lit (.bool true)], args := [d] }
  | _ => none }
def segmentMustsRow : OpenClaim := { program := "ytdbimchiecdkoaa", sum := "3d93c78a0005430f41ac901ef25eb9a2170608e307827ef0a9be2d126d7f81b9", func := "calamus/calamuslaw13.SegmentMusts", spec := "segmentMusts", unfollowed := true, recurses := true, apart := false }
def SegmentMustsSaid : Prop := segmentMustsRow.holds Try.pinned (OpenSpec.ofChange segmentMustsSpec)

/-- ITS FALSE NEIGHBOUR: 'it returns false'. Refute it at one input. -/
def segmentMustsWrong : ChangeSpec := { name := "segmentMusts", fn := fun _ => fun
  | [d] => { results := [.lit (.bool false)], args := [d] }
  | _ => none }
def SegmentMustsWrongFalsely : Prop := segmentMustsRow.holds Try.pinned (OpenSpec.ofChange segmentMustsWrong)

/-- 'calamuslaw13.SegmentParagraphs': WHATEVER THE INPUT: true; the input reads as it did. -/
def segmentParagraphsSpec : ChangeSpec := { name := "segmentParagraphs", fn := fun _ => fun
  | [d1, d2, d3] => { results := [.lit (.bool true)], args := [d1, d2, d3] }
  | _ => none }
def segmentParagraphsRow : OpenClaim := { program := "ytdbimchiecdkoaa", sum := "3d93c78a0005430f41ac901ef25eb9a2170608e307827ef0a9be2d126d7f81b9", func := "calamus/calamuslaw13.SegmentParagraphs", spec := "segmentParagraphs", unfollowed := true, recurses := true, apart := false }
def SegmentParagraphsSaid : Prop := segmentParagraphsRow.holds Try.pinned (OpenSpec.ofChange segmentParagraphsSpec)

/-- ITS FALSE NEIGHBOUR: 'it returns false'. Refute it at one input. -/
def segmentParagraphsWrong : ChangeSpec := { name := "segmentParagraphs", fn := fun _ => fun
  | [d1, d2, d3] => { results := [.lit (.bool false)], args := [d1, d2, d3] }
  | _ => none }
def SegmentParagraphsWrongFalsely : Prop := segmentParagraphsRow.holds Try.pinned (OpenSpec.ofChange segmentParagraphsWrong)

/-- 'calamuslaw13.SegmentWords': WHATEVER THE INPUT: true; the input reads as it did. -/
def segmentWordsSpec : ChangeSpec := { name := "segmentWords", fn := fun _ => fun
  | [d] => { results := [.lit (.bool true)], args := [d] }
  | _ => none }
def segmentWordsRow : OpenClaim := { program := "ytdbimchiecdkoaa", sum := "3d93c78a0005430f41ac901ef25eb9a2170608e307827ef0a9be2d126d7f81b9", func := "calamus/calamuslaw13.SegmentWords", spec := "segmentWords", unfollowed := true, recurses := true, apart := false }
def SegmentWordsSaid : Prop := segmentWordsRow.holds Try.pinned (OpenSpec.ofChange segmentWordsSpec)

/-- ITS FALSE NEIGHBOUR: 'it returns false'. Refute it at one input. -/
def segmentWordsWrong : ChangeSpec := { name := "segmentWords", fn := fun _ => fun
  | [d] => { results := [.lit (.bool false)], args := [d] }
  | _ => none }
def SegmentWordsWrongFalsely : Prop := segmentWordsRow.holds Try.pinned (OpenSpec.ofChange segmentWordsWrong)

/-- 'calamuslaw13.SegmentMarks': WHATEVER THE INPUT: true; the input reads as it did. -/
def segmentMarksSpec : ChangeSpec := { name := "segmentMarks", fn := fun _ => fun
  | [d1, d2] => { results := [.lit (.bool true)], args := [d1, d2] }
  | _ => none }
def segmentMarksRow : OpenClaim := { program := "ytdbimchiecdkoaa", sum := "3d93c78a0005430f41ac901ef25eb9a2170608e307827ef0a9be2d126d7f81b9", func := "calamus/calamuslaw13.SegmentMarks", spec := "segmentMarks", unfollowed := true, recurses := true, apart := false }
def SegmentMarksSaid : Prop := segmentMarksRow.holds Try.pinned (OpenSpec.ofChange segmentMarksSpec)

/-- ITS FALSE NEIGHBOUR: 'it returns false'. Refute it at one input. -/
def segmentMarksWrong : ChangeSpec := { name := "segmentMarks", fn := fun _ => fun
  | [d1, d2] => { results := [.lit (.bool false)], args := [d1, d2] }
  | _ => none }
def SegmentMarksWrongFalsely : Prop := segmentMarksRow.holds Try.pinned (OpenSpec.ofChange segmentMarksWrong)

/- THE SECOND FORM. 'bulk': how many values and letters a reading holds, each counted each time it is reached (what is shared counts as often as it is met; a slice's spare places count too). A statement '..UptoSaid' is the law's where the arguments, and the package variables that the reading takes, are together of bulk at most 1048576: NARROWER than '..Said'. Prove '..Said' where nothing that the law and all that it calls make is longer than what came in: it says more and counts as full. Else prove '..UptoSaid'. A law counts once. -/
mutual
def uptoBulk {H : Type} : DataW H → Nat
  | .lit (.string bytes) => bytes.length + 1
  | .lit _ => 1
  | .nil => 1
  | .ptr d => uptoBulk d + 1
  | .slice elems spare => uptoBulkAll elems + uptoBulkAll spare + 1
  | .agg parts => uptoBulkAll parts + 1
  | .iface _ d => uptoBulk d + 1
  | .map entries => uptoBulkEntries entries + 1
  | .held _ => 1
def uptoBulkAll {H : Type} : List (DataW H) → Nat
  | [] => 0
  | d :: r => uptoBulk d + uptoBulkAll r
def uptoBulkEntries {H : Type} : List (Lit × DataW H) → Nat
  | [] => 0
  | x :: r => uptoBulkEntry x + uptoBulkEntries r
def uptoBulkEntry {H : Type} : Lit × DataW H → Nat
  | (.string bytes, d) => bytes.length + uptoBulk d + 1
  | (_, d) => uptoBulk d + 1
 end
def uptoSmall : (H : Type) → List (DataW H) → Bool := fun _ ds => decide (uptoBulkAll ds ≤ 1048576)
def OpenSpec.upto (s : _root_.Go.ChangeSpec) : _root_.Go.OpenSpec := { _root_.Go.OpenSpec.ofChange s with cond := some uptoSmall }

/-- 'calamuslaw13.SegmentBreaks', WHERE WHAT IT READS IS OF BULK AT MOST 1048576: true; the input reads as it did. -/
def segmentBreaksUptoRow : OpenClaim := { program := "ytdbimchiecdkoaa", sum := "3d93c78a0005430f41ac901ef25eb9a2170608e307827ef0a9be2d126d7f81b9", func := "calamus/calamuslaw13.SegmentBreaks", spec := "segmentBreaks", unfollowed := true, recurses := true, apart := false, narrowed := true }
def SegmentBreaksUptoSaid : Prop := segmentBreaksUptoRow.holds Try.pinned (OpenSpec.upto segmentBreaksSpec)

/-- 'calamuslaw13.SegmentMusts', WHERE WHAT IT READS IS OF BULK AT MOST 1048576: true; the input reads as it did. -/
def segmentMustsUptoRow : OpenClaim := { program := "ytdbimchiecdkoaa", sum := "3d93c78a0005430f41ac901ef25eb9a2170608e307827ef0a9be2d126d7f81b9", func := "calamus/calamuslaw13.SegmentMusts", spec := "segmentMusts", unfollowed := true, recurses := true, apart := false, narrowed := true }
def SegmentMustsUptoSaid : Prop := segmentMustsUptoRow.holds Try.pinned (OpenSpec.upto segmentMustsSpec)

/-- 'calamuslaw13.SegmentParagraphs', WHERE WHAT IT READS IS OF BULK AT MOST 1048576: true; the input reads as it did. -/
def segmentParagraphsUptoRow : OpenClaim := { program := "ytdbimchiecdkoaa", sum := "3d93c78a0005430f41ac901ef25eb9a2170608e307827ef0a9be2d126d7f81b9", func := "calamus/calamuslaw13.SegmentParagraphs", spec := "segmentParagraphs", unfollowed := true, recurses := true, apart := false, narrowed := true }
def SegmentParagraphsUptoSaid : Prop := segmentParagraphsUptoRow.holds Try.pinned (OpenSpec.upto segmentParagraphsSpec)

/-- 'calamuslaw13.SegmentWords', WHERE WHAT IT READS IS OF BULK AT MOST 1048576: true; the input reads as it did. -/
def segmentWordsUptoRow : OpenClaim := { program := "ytdbimchiecdkoaa", sum := "3d93c78a0005430f41ac901ef25eb9a2170608e307827ef0a9be2d126d7f81b9", func := "calamus/calamuslaw13.SegmentWords", spec := "segmentWords", unfollowed := true, recurses := true, apart := false, narrowed := true }
def SegmentWordsUptoSaid : Prop := segmentWordsUptoRow.holds Try.pinned (OpenSpec.upto segmentWordsSpec)

/-- 'calamuslaw13.SegmentMarks', WHERE WHAT IT READS IS OF BULK AT MOST 1048576: true; the input reads as it did. -/
def segmentMarksUptoRow : OpenClaim := { program := "ytdbimchiecdkoaa", sum := "3d93c78a0005430f41ac901ef25eb9a2170608e307827ef0a9be2d126d7f81b9", func := "calamus/calamuslaw13.SegmentMarks", spec := "segmentMarks", unfollowed := true, recurses := true, apart := false, narrowed := true }
def SegmentMarksUptoSaid : Prop := segmentMarksUptoRow.holds Try.pinned (OpenSpec.upto segmentMarksSpec)

end Rows
end Go.Proofs.Ytdbimchiecdkoaa
