/-
  No cell of these rows narrows 'for every input' (looked for: loops, veiled, ifaces, maps, wideKeys, modest, calm, conditions, laid).
  DERIVED. THE GIVEN ROWS OF THIS SEAT. 5 by the template 'for every input the law returns true; each argument reads behind the call as it read before'; 0 by the template 'total and deterministic' (their statements: YtijmponhkabeiaaTotals.lean).
  GIVEN WITH THE SEED: the statements are not yours to turn. If you find one false, say at which input.
  Laid BY PROGRAM, IN A SANDBOX (cutbox-rows.mjs): the forced cells as the released guide's own fill.sh prints them over the translation 25e84b75f0603a37… (all of the seat's roots in one cut). By AI agents, Wed Nov 11 2026. No macro, syntax, notation, axiom, sorry.
-/
import Derived.Test.YtijmponhkabeiaaChecked
import GoSem.Claim
import GoSem.ClaimJoined
import GoSem.ClaimMapViews
import Derived.JoinedTies
import Derived.KernelRfl
namespace Go.Proofs.Ytijmponhkabeiaa
/- THE CELL 'sum', in the pinned program and in every row, IS THE sha256 OF THE DUMP (.gsa) THAT YtijmponhkabeiaaProg.lean LOADS. Nothing in Lean hashes anything: it is a label: what it is worth is what the hold of that sum in a sandbox is worth. -/
noncomputable def Try.pinned : Pinned := { name := "ytijmponhkabeiaa", sum := "25e84b75f0603a37cee74f205579b337c26150d2c70ad5cd5c671f2402c46bd8", checked := Try.checked }
namespace Rows
def none {H : Type} : Left H := { results := [], args := [] }

/-- 'calamuslaw05.SfntTables': WHATEVER THE INPUT: true; the input reads as it did. -/
def sfntTablesSpec : ChangeSpec := { name := "sfntTables", fn := fun _ => fun
  | [d] => { results := [.lit (.bool true)], args := [d] }
  | _ => none }
def sfntTablesRow : OpenClaim := { program := "ytijmponhkabeiaa", sum := "25e84b75f0603a37cee74f205579b337c26150d2c70ad5cd5c671f2402c46bd8", func := "calamus/calamuslaw05.SfntTables", spec := "sfntTables", inPlace := ["internal/bytealg.Compare"], unfollowed := true, recurses := true, apart := false }
def SfntTablesSaid : Prop := sfntTablesRow.holds Try.pinned (OpenSpec.ofChange sfntTablesSpec)

/-- ITS FALSE NEIGHBOUR: 'it returns false'. Refute it at one input. -/
def sfntTablesWrong : ChangeSpec := { name := "sfntTables", fn := fun _ => fun
  | [d] => { results := [.lit (.bool false)], args := [d] }
  | _ => none }
def SfntTablesWrongFalsely : Prop := sfntTablesRow.holds Try.pinned (OpenSpec.ofChange sfntTablesWrong)

/-- 'calamuslaw05.SfntJoins': WHATEVER THE INPUT: true; the input reads as it did. -/
def sfntJoinsSpec : ChangeSpec := { name := "sfntJoins", fn := fun _ => fun
  | [d1, d2] => { results := [.lit (.bool true)], args := [d1, d2] }
  | _ => none }
def sfntJoinsRow : OpenClaim := { program := "ytijmponhkabeiaa", sum := "25e84b75f0603a37cee74f205579b337c26150d2c70ad5cd5c671f2402c46bd8", func := "calamus/calamuslaw05.SfntJoins", spec := "sfntJoins", inPlace := ["internal/bytealg.Compare"], unfollowed := true, recurses := true, apart := false }
def SfntJoinsSaid : Prop := sfntJoinsRow.holds Try.pinned (OpenSpec.ofChange sfntJoinsSpec)

/-- ITS FALSE NEIGHBOUR: 'it returns false'. Refute it at one input. -/
def sfntJoinsWrong : ChangeSpec := { name := "sfntJoins", fn := fun _ => fun
  | [d1, d2] => { results := [.lit (.bool false)], args := [d1, d2] }
  | _ => none }
def SfntJoinsWrongFalsely : Prop := sfntJoinsRow.holds Try.pinned (OpenSpec.ofChange sfntJoinsWrong)

/-- 'calamuslaw05.SfntHeads': WHATEVER THE INPUT: true; the input reads as it did. -/
def sfntHeadsSpec : ChangeSpec := { name := "sfntHeads", fn := fun _ => fun
  | [d] => { results := [.lit (.bool true)], args := [d] }
  | _ => none }
def sfntHeadsRow : OpenClaim := { program := "ytijmponhkabeiaa", sum := "25e84b75f0603a37cee74f205579b337c26150d2c70ad5cd5c671f2402c46bd8", func := "calamus/calamuslaw05.SfntHeads", spec := "sfntHeads", inPlace := ["internal/bytealg.Compare"], unfollowed := true, recurses := true, apart := false }
def SfntHeadsSaid : Prop := sfntHeadsRow.holds Try.pinned (OpenSpec.ofChange sfntHeadsSpec)

/-- ITS FALSE NEIGHBOUR: 'it returns false'. Refute it at one input. -/
def sfntHeadsWrong : ChangeSpec := { name := "sfntHeads", fn := fun _ => fun
  | [d] => { results := [.lit (.bool false)], args := [d] }
  | _ => none }
def SfntHeadsWrongFalsely : Prop := sfntHeadsRow.holds Try.pinned (OpenSpec.ofChange sfntHeadsWrong)

/-- 'calamuslaw05.SfntWidths': WHATEVER THE INPUT: true; the input reads as it did. -/
def sfntWidthsSpec : ChangeSpec := { name := "sfntWidths", fn := fun _ => fun
  | [d1, d2, d3] => { results := [.lit (.bool true)], args := [d1, d2, d3] }
  | _ => none }
def sfntWidthsRow : OpenClaim := { program := "ytijmponhkabeiaa", sum := "25e84b75f0603a37cee74f205579b337c26150d2c70ad5cd5c671f2402c46bd8", func := "calamus/calamuslaw05.SfntWidths", spec := "sfntWidths", inPlace := ["internal/bytealg.Compare"], unfollowed := true, recurses := true, apart := false }
def SfntWidthsSaid : Prop := sfntWidthsRow.holds Try.pinned (OpenSpec.ofChange sfntWidthsSpec)

/-- ITS FALSE NEIGHBOUR: 'it returns false'. Refute it at one input. -/
def sfntWidthsWrong : ChangeSpec := { name := "sfntWidths", fn := fun _ => fun
  | [d1, d2, d3] => { results := [.lit (.bool false)], args := [d1, d2, d3] }
  | _ => none }
def SfntWidthsWrongFalsely : Prop := sfntWidthsRow.holds Try.pinned (OpenSpec.ofChange sfntWidthsWrong)

/-- 'calamuslaw05.SfntSums': WHATEVER THE INPUT: true; the input reads as it did. -/
def sfntSumsSpec : ChangeSpec := { name := "sfntSums", fn := fun _ => fun
  | [d1, d2] => { results := [.lit (.bool true)], args := [d1, d2] }
  | _ => none }
def sfntSumsRow : OpenClaim := { program := "ytijmponhkabeiaa", sum := "25e84b75f0603a37cee74f205579b337c26150d2c70ad5cd5c671f2402c46bd8", func := "calamus/calamuslaw05.SfntSums", spec := "sfntSums", inPlace := ["internal/bytealg.Compare"], unfollowed := true, recurses := true, apart := false }
def SfntSumsSaid : Prop := sfntSumsRow.holds Try.pinned (OpenSpec.ofChange sfntSumsSpec)

/-- ITS FALSE NEIGHBOUR: 'it returns false'. Refute it at one input. -/
def sfntSumsWrong : ChangeSpec := { name := "sfntSums", fn := fun _ => fun
  | [d1, d2] => { results := [.lit (.bool false)], args := [d1, d2] }
  | _ => none }
def SfntSumsWrongFalsely : Prop := sfntSumsRow.holds Try.pinned (OpenSpec.ofChange sfntSumsWrong)

/- THE SECOND FORM. 'bulk': how many values and letters a reading holds, each counted each time it is reached (what is shared counts as often as it is met; a slice's spare places count too). A statement '..UptoSaid' is the law's where the arguments, and the package variables that the reading takes, are together of bulk at most 1048576: NARROWER than '..Said'. Prove '..Said' where nothing that the law and all that it calls make is longer than what came in: it says more and counts as full. Else prove '..UptoSaid'. A law counts once. -/
mutual
def uptoBulk {H : Type} : DataW H → Nat
  | .lit (.string bytes) => bytes.length + 1
  | .lit _ => 1
  | .nil => 1
  | .ptr d => uptoBulk d + 1
  | .slice elems spare => uptoBulkAll elems + uptoBulkAll spare + 1
  | .agg parts => uptoBulkAll parts + 1
  | .iface _ d => uptoBulk d + 1
  | .map entries => uptoBulkEntries entries + 1
  | .held _ => 1
def uptoBulkAll {H : Type} : List (DataW H) → Nat
  | [] => 0
  | d :: r => uptoBulk d + uptoBulkAll r
def uptoBulkEntries {H : Type} : List (Lit × DataW H) → Nat
  | [] => 0
  | x :: r => uptoBulkEntry x + uptoBulkEntries r
def uptoBulkEntry {H : Type} : Lit × DataW H → Nat
  | (.string bytes, d) => bytes.length + uptoBulk d + 1
  | (_, d) => uptoBulk d + 1
 end
def uptoSmall : (H : Type) → List (DataW H) → Bool := fun _ ds => decide (uptoBulkAll ds ≤ 1048576)
def OpenSpec.upto (s : _root_.Go.ChangeSpec) : _root_.Go.OpenSpec := { _root_.Go.OpenSpec.ofChange s with cond := some uptoSmall }

/-- 'calamuslaw05.SfntTables', WHERE WHAT IT READS IS OF BULK AT MOST 1048576: true; the input reads as it did. -/
def sfntTablesUptoRow : OpenClaim := { program := "ytijmponhkabeiaa", sum := "25e84b75f0603a37cee74f205579b337c26150d2c70ad5cd5c671f2402c46bd8", func := "calamus/calamuslaw05.SfntTables", spec := "sfntTables", inPlace := ["internal/bytealg.Compare"], unfollowed := true, recurses := true, apart := false, narrowed := true }
def SfntTablesUptoSaid : Prop := sfntTablesUptoRow.holds Try.pinned (OpenSpec.upto sfntTablesSpec)

/-- 'calamuslaw05.SfntJoins', WHERE WHAT IT READS IS OF BULK AT MOST 1048576: true; the input reads as it did. -/
def sfntJoinsUptoRow : OpenClaim := { program := "ytijmponhkabeiaa", sum := "25e84b75f0603a37cee74f205579b337c26150d2c70ad5cd5c671f2402c46bd8", func := "calamus/calamuslaw05.SfntJoins", spec := "sfntJoins", inPlace := ["internal/bytealg.Compare"], unfollowed := true, recurses := true, apart := false, narrowed := true }
def SfntJoinsUptoSaid : Prop := sfntJoinsUptoRow.holds Try.pinned (OpenSpec.upto sfntJoinsSpec)

/-- 'calamuslaw05.SfntHeads', WHERE WHAT IT READS IS OF BULK AT MOST 1048576: true; the input reads as it did. -/
def sfntHeadsUptoRow : OpenClaim := { program := "ytijmponhkabeiaa", sum := "25e84b75f0603a37cee74f205579b337c26150d2c70ad5cd5c671f2402c46bd8", func := "calamus/calamuslaw05.SfntHeads", spec := "sfntHeads", inPlace := ["internal/bytealg.Compare"], unfollowed := true, recurses := true, apart := false, narrowed := true }
def SfntHeadsUptoSaid : Prop := sfntHeadsUptoRow.holds Try.pinned (OpenSpec.upto sfntHeadsSpec)

/-- 'calamuslaw05.SfntWidths', WHERE WHAT IT READS IS OF BULK AT MOST 1048576: true; the input reads as it did. -/
def sfntWidthsUptoRow : OpenClaim := { program := "ytijmponhkabeiaa", sum := "25e84b75f0603a37cee74f205579b337c26150d2c70ad5cd5c671f2402c46bd8", func := "calamus/calamuslaw05.SfntWidths", spec := "sfntWidths", inPlace := ["internal/bytealg.Compare"], unfollowed := true, recurses := true, apart := false, narrowed := true }
def SfntWidthsUptoSaid : Prop := sfntWidthsUptoRow.holds Try.pinned (OpenSpec.upto sfntWidthsSpec)

/-- 'calamuslaw05.SfntSums', WHERE WHAT IT READS IS OF BULK AT MOST 1048576: true; the input reads as it did. -/
def sfntSumsUptoRow : OpenClaim := { program := "ytijmponhkabeiaa", sum := "25e84b75f0603a37cee74f205579b337c26150d2c70ad5cd5c671f2402c46bd8", func := "calamus/calamuslaw05.SfntSums", spec := "sfntSums", inPlace := ["internal/bytealg.Compare"], unfollowed := true, recurses := true, apart := false, narrowed := true }
def SfntSumsUptoSaid : Prop := sfntSumsUptoRow.holds Try.pinned (OpenSpec.upto sfntSumsSpec)

end Rows
end Go.Proofs.Ytijmponhkabeiaa
