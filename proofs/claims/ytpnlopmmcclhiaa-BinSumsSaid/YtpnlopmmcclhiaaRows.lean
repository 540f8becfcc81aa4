/-
  No cell of these rows narrows 'for every input' (looked for: loops, veiled, ifaces, maps, wideKeys, modest, calm, conditions, laid).
  DERIVED. THE GIVEN ROWS OF THIS SEAT. 6 by the template 'for every input the law returns true; each argument reads behind the call as it read before'; 0 by the template 'total and deterministic' (their statements: YtpnlopmmcclhiaaTotals.lean).
  GIVEN WITH THE SEED: the statements are not yours to turn. If you find one false, say at which input.
  Laid BY PROGRAM, IN A SANDBOX (cutbox-rows.mjs): the forced cells as the released guide's own fill.sh prints them over the translation 59eeda4582487548… (all of the seat's roots in one cut). By AI agents, Wed Nov 11 2026. No macro, syntax, notation, axiom, sorry.
-/
import Derived.Test.YtpnlopmmcclhiaaChecked
import GoSem.Claim
import GoSem.ClaimJoined
import GoSem.ClaimMapViews
import Derived.JoinedTies
import Derived.KernelRfl
namespace Go.Proofs.Ytpnlopmmcclhiaa
/- THE CELL 'sum', in the pinned program and in every row, IS THE sha256 OF THE DUMP (.gsa) THAT YtpnlopmmcclhiaaProg.lean LOADS. Nothing in Lean hashes anything: it is a label: what it is worth is what the hold of that sum in a sandbox is worth. -/
noncomputable def Try.pinned : Pinned := { name := "ytpnlopmmcclhiaa", sum := "59eeda4582487548290927da016b2bd38ec738bd6028be04d068f8af60653a86", checked := Try.checked }
namespace Rows
def none {H : Type} : Left H := { results := [], args := [] }

/-- 'calamuslaw04.BinNone': WHATEVER THE INPUT: true; the input reads as it did. -/
def binNoneSpec : ChangeSpec := { name := "binNone", fn := fun _ => fun
  | [d1, d2] => { results := [.lit (.bool true)], args := [d1, d2] }
  | _ => none }
def binNoneRow : OpenClaim := { program := "ytpnlopmmcclhiaa", sum := "59eeda4582487548290927da016b2bd38ec738bd6028be04d068f8af60653a86", func := "calamus/calamuslaw04.BinNone", spec := "binNone", apart := false }
def BinNoneSaid : Prop := binNoneRow.holds Try.pinned (OpenSpec.ofChange binNoneSpec)

/-- ITS FALSE NEIGHBOUR: 'it returns false'. Refute it at one input. -/
def binNoneWrong : ChangeSpec := { name := "binNone", fn := fun _ => fun
  | [d1, d2] => { results := [.lit (.bool false)], args := [d1, d2] }
  | _ => none }
def BinNoneWrongFalsely : Prop := binNoneRow.holds Try.pinned (OpenSpec.ofChange binNoneWrong)

/-- 'calamuslaw04.BinPuts': WHATEVER THE INPUT: true; the input reads as it did. -/
def binPutsSpec : ChangeSpec := { name := "binPuts", fn := fun _ => fun
  | [d1, d2] => { results := [.lit (.bool true)], args := [d1, d2] }
  | _ => none }
def binPutsRow : OpenClaim := { program := "ytpnlopmmcclhiaa", sum := "59eeda4582487548290927da016b2bd38ec738bd6028be04d068f8af60653a86", func := "calamus/calamuslaw04.BinPuts", spec := "binPuts", apart := false }
def BinPutsSaid : Prop := binPutsRow.holds Try.pinned (OpenSpec.ofChange binPutsSpec)

/-- ITS FALSE NEIGHBOUR: 'it returns false'. Refute it at one input. -/
def binPutsWrong : ChangeSpec := { name := "binPuts", fn := fun _ => fun
  | [d1, d2] => { results := [.lit (.bool false)], args := [d1, d2] }
  | _ => none }
def BinPutsWrongFalsely : Prop := binPutsRow.holds Try.pinned (OpenSpec.ofChange binPutsWrong)

/-- 'calamuslaw04.BinBack': WHATEVER THE INPUT: true; the input reads as it did. -/
def binBackSpec : ChangeSpec := { name := "binBack", fn := fun _ => fun
  | [d1, d2] => { results := [.lit (.bool true)], args := [d1, d2] }
  | _ => none }
def binBackRow : OpenClaim := { program := "ytpnlopmmcclhiaa", sum := "59eeda4582487548290927da016b2bd38ec738bd6028be04d068f8af60653a86", func := "calamus/calamuslaw04.BinBack", spec := "binBack", apart := false }
def BinBackSaid : Prop := binBackRow.holds Try.pinned (OpenSpec.ofChange binBackSpec)

/-- ITS FALSE NEIGHBOUR: 'it returns false'. Refute it at one input. -/
def binBackWrong : ChangeSpec := { name := "binBack", fn := fun _ => fun
  | [d1, d2] => { results := [.lit (.bool false)], args := [d1, d2] }
  | _ => none }
def BinBackWrongFalsely : Prop := binBackRow.holds Try.pinned (OpenSpec.ofChange binBackWrong)

/-- 'calamuslaw04.BinSums': WHATEVER THE INPUT: true; the input reads as it did. -/
def binSumsSpec : ChangeSpec := { name := "binSums", fn := fun _ => fun
  | [d1, d2] => { results := [.lit (.bool true)], args := [d1, d2] }
  | _ => none }
def binSumsRow : OpenClaim := { program := "ytpnlopmmcclhiaa", sum := "59eeda4582487548290927da016b2bd38ec738bd6028be04d068f8af60653a86", func := "calamus/calamuslaw04.BinSums", spec := "binSums", apart := false }
def BinSumsSaid : Prop := binSumsRow.holds Try.pinned (OpenSpec.ofChange binSumsSpec)

/-- ITS FALSE NEIGHBOUR: 'it returns false'. Refute it at one input. -/
def binSumsWrong : ChangeSpec := { name := "binSums", fn := fun _ => fun
  | [d1, d2] => { results := [.lit (.bool false)], args := [d1, d2] }
  | _ => none }
def BinSumsWrongFalsely : Prop := binSumsRow.holds Try.pinned (OpenSpec.ofChange binSumsWrong)

/-- 'calamuslaw04.BinParts': WHATEVER THE INPUT: true; the input reads as it did. -/
def binPartsSpec : ChangeSpec := { name := "binParts", fn := fun _ => fun
  | [d1, d2, d3, d4, d5] => { results := [.lit (.bool true)], args := [d1, d2, d3, d4, d5] }
  | _ => none }
def binPartsRow : OpenClaim := { program := "ytpnlopmmcclhiaa", sum := "59eeda4582487548290927da016b2bd38ec738bd6028be04d068f8af60653a86", func := "calamus/calamuslaw04.BinParts", spec := "binParts", apart := false }
def BinPartsSaid : Prop := binPartsRow.holds Try.pinned (OpenSpec.ofChange binPartsSpec)

/-- ITS FALSE NEIGHBOUR: 'it returns false'. Refute it at one input. -/
def binPartsWrong : ChangeSpec := { name := "binParts", fn := fun _ => fun
  | [d1, d2, d3, d4, d5] => { results := [.lit (.bool false)], args := [d1, d2, d3, d4, d5] }
  | _ => none }
def BinPartsWrongFalsely : Prop := binPartsRow.holds Try.pinned (OpenSpec.ofChange binPartsWrong)

/-- 'calamuslaw04.BinRows': WHATEVER THE INPUT: true; the input reads as it did. -/
def binRowsSpec : ChangeSpec := { name := "binRows", fn := fun _ => fun
  | [d1, d2, d3] => { results := [.lit (.bool true)], args := [d1, d2, d3] }
  | _ => none }
def binRowsRow : OpenClaim := { program := "ytpnlopmmcclhiaa", sum := "59eeda4582487548290927da016b2bd38ec738bd6028be04d068f8af60653a86", func := "calamus/calamuslaw04.BinRows", spec := "binRows", apart := false }
def BinRowsSaid : Prop := binRowsRow.holds Try.pinned (OpenSpec.ofChange binRowsSpec)

/-- ITS FALSE NEIGHBOUR: 'it returns false'. Refute it at one input. -/
def binRowsWrong : ChangeSpec := { name := "binRows", fn := fun _ => fun
  | [d1, d2, d3] => { results := [.lit (.bool false)], args := [d1, d2, d3] }
  | _ => none }
def BinRowsWrongFalsely : Prop := binRowsRow.holds Try.pinned (OpenSpec.ofChange binRowsWrong)

/- THE SECOND FORM. 'bulk': how many values and letters a reading holds, each counted each time it is reached (what is shared counts as often as it is met; a slice's spare places count too). A statement '..UptoSaid' is the law's where the arguments, and the package variables that the reading takes, are together of bulk at most 1048576: NARROWER than '..Said'. Prove '..Said' where nothing that the law and all that it calls make is longer than what came in: it says more and counts as full. Else prove '..UptoSaid'. A law counts once. -/
mutual
def uptoBulk {H : Type} : DataW H → Nat
  | .lit (.string bytes) => bytes.length + 1
  | .lit _ => 1
  | .nil => 1
  | .ptr d => uptoBulk d + 1
  | .slice elems spare => uptoBulkAll elems + uptoBulkAll spare + 1
  | .agg parts => uptoBulkAll parts + 1
  | .iface _ d => uptoBulk d + 1
  | .map entries => uptoBulkEntries entries + 1
  | .held _ => 1
def uptoBulkAll {H : Type} : List (DataW H) → Nat
  | [] => 0
  | d :: r => uptoBulk d + uptoBulkAll r
def uptoBulkEntries {H : Type} : List (Lit × DataW H) → Nat
  | [] => 0
  | x :: r => uptoBulkEntry x + uptoBulkEntries r
def uptoBulkEntry {H : Type} : Lit × DataW H → Nat
  | (.string bytes, d) => bytes.length + uptoBulk d + 1
  | (_, d) => uptoBulk d + 1
 end
def uptoSmall : (H : Type) → List (DataW H) → Bool := fun _ ds => decide (uptoBulkAll ds ≤ 1048576)
def OpenSpec.upto (s : _root_.Go.ChangeSpec) : _root_.Go.OpenSpec := { _root_.Go.OpenSpec.ofChange s with cond := some uptoSmall }

/-- 'calamuslaw04.BinNone', WHERE WHAT IT READS IS OF BULK AT MOST 1048576: true; the input reads as it did. -/
def binNoneUptoRow : OpenClaim := { program := "ytpnlopmmcclhiaa", sum := "59eeda4582487548290927da016b2bd38ec738bd6028be04d068f8af60653a86", func := "calamus/calamuslaw04.BinNone", spec := "binNone", apart := false, narrowed := true }
def BinNoneUptoSaid : Prop := binNoneUptoRow.holds Try.pinned (OpenSpec.upto binNoneSpec)

/-- 'calamuslaw04.BinPuts', WHERE WHAT IT READS IS OF BULK AT MOST 1048576: true; the input reads as it did. -/
def binPutsUptoRow : OpenClaim := { program := "ytpnlopmmcclhiaa", sum := "59eeda4582487548290927da016b2bd38ec738bd6028be04d068f8af60653a86", func := "calamus/calamuslaw04.BinPuts", spec := "binPuts", apart := false, narrowed := true }
def BinPutsUptoSaid : Prop := binPutsUptoRow.holds Try.pinned (OpenSpec.upto binPutsSpec)

/-- 'calamuslaw04.BinBack', WHERE WHAT IT READS IS OF BULK AT MOST 1048576: true; the input reads as it did. -/
def binBackUptoRow : OpenClaim := { program := "ytpnlopmmcclhiaa", sum := "59eeda4582487548290927da016b2bd38ec738bd6028be04d068f8af60653a86", func := "calamus/calamuslaw04.BinBack", spec := "binBack", apart := false, narrowed := true }
def BinBackUptoSaid : Prop := binBackUptoRow.holds Try.pinned (OpenSpec.upto binBackSpec)

/-- 'calamuslaw04.BinSums', WHERE WHAT IT READS IS OF BULK AT MOST 1048576: true; the input reads as it did. -/
def binSumsUptoRow : OpenClaim := { program := "ytpnlopmmcclhiaa", sum := "59eeda4582487548290927da016b2bd38ec738bd6028be04d068f8af60653a86", func := "calamus/calamuslaw04.BinSums", spec := "binSums", apart := false, narrowed := true }
def BinSumsUptoSaid : Prop := binSumsUptoRow.holds Try.pinned (OpenSpec.upto binSumsSpec)

/-- 'calamuslaw04.BinParts', WHERE WHAT IT READS IS OF BULK AT MOST 1048576: true; the input reads as it did. -/
def binPartsUptoRow : OpenClaim := { program := "ytpnlopmmcclhiaa", sum := "59eeda4582487548290927da016b2bd38ec738bd6028be04d068f8af60653a86", func := "calamus/calamuslaw04.BinParts", spec := "binParts", apart := false, narrowed := true }
def BinPartsUptoSaid : Prop := binPartsUptoRow.holds Try.pinned (OpenSpec.upto binPartsSpec)

/-- 'calamuslaw04.BinRows', WHERE WHAT IT READS IS OF BULK AT MOST 1048576: true; the input reads as it did. -/
def binRowsUptoRow : OpenClaim := { program := "ytpnlopmmcclhiaa", sum := "59eeda4582487548290927da016b2bd38ec738bd6028be04d068f8af60653a86", func := "calamus/calamuslaw04.BinRows", spec := "binRows", apart := false, narrowed := true }
def BinRowsUptoSaid : Prop := binRowsUptoRow.holds Try.pinned (OpenSpec.upto binRowsSpec)

end Rows
end Go.Proofs.Ytpnlopmmcclhiaa
