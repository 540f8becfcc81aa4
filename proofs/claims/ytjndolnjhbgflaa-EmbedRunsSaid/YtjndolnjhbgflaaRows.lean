/-
  No cell of these rows narrows 'for every input' (looked for: loops, veiled, ifaces, maps, wideKeys, modest, calm, conditions, laid).
  DERIVED. THE GIVEN ROWS OF THIS SEAT. 5 by the template 'for every input the law returns true; each argument reads behind the call as it read before'; 0 by the template 'total and deterministic' (their statements: YtjndolnjhbgflaaTotals.lean).
  GIVEN WITH THE SEED: the statements are not yours to turn. If you find one false, say at which input.
  Laid BY PROGRAM, IN A SANDBOX (cutbox-rows.mjs): the forced cells as the released guide's own fill.sh prints them over the translation eff7eefc23b05a94… (all of the seat's roots in one cut). By AI agents, Wed Nov 11 2026. No macro, syntax, notation, axiom, sorry.
-/
import Derived.Test.YtjndolnjhbgflaaChecked
import GoSem.Claim
import GoSem.ClaimJoined
import GoSem.ClaimMapViews
import Derived.JoinedTies
import Derived.KernelRfl
namespace Go.Proofs.Ytjndolnjhbgflaa
/- THE CELL 'sum', in the pinned program and in every row, IS THE sha256 OF THE DUMP (.gsa) THAT YtjndolnjhbgflaaProg.lean LOADS. Nothing in Lean hashes anything: it is a label: what it is worth is what the hold of that sum in a sandbox is worth. -/
noncomputable def Try.pinned : Pinned := { name := "ytjndolnjhbgflaa", sum := "eff7eefc23b05a94577692d1dec11914c9efb51e5fcf896c8a67fb711f26fee4", checked := Try.checked }
namespace Rows
def none {H : Type} : Left H := { results := [], args := [] }

/-- 'calamuslaw10.EmbedSequences': WHATEVER THE INPUT: true; the input reads as it did. -/
def embedSequencesSpec : ChangeSpec := { name := "embedSequences", fn := fun _ => fun
  | [d1, d2, d3] => { results := [.lit (.bool true)], args := [d1, d2, d3] }
  | _ => none }
def embedSequencesRow : OpenClaim := { program := "ytjndolnjhbgflaa", sum := "eff7eefc23b05a94577692d1dec11914c9efb51e5fcf896c8a67fb711f26fee4", func := "calamus/calamuslaw10.EmbedSequences", spec := "embedSequences", apart := false }
def EmbedSequencesSaid : Prop := embedSequencesRow.holds Try.pinned (OpenSpec.ofChange embedSequencesSpec)

/-- ITS FALSE NEIGHBOUR: 'it returns false'. Refute it at one input. -/
def embedSequencesWrong : ChangeSpec := { name := "embedSequences", fn := fun _ => fun
  | [d1, d2, d3] => { results := [.lit (.bool false)], args := [d1, d2, d3] }
  | _ => none }
def EmbedSequencesWrongFalsely : Prop := embedSequencesRow.holds Try.pinned (OpenSpec.ofChange embedSequencesWrong)

/-- 'calamuslaw10.EmbedOnce': WHATEVER THE INPUT: true; the input reads as it did. -/
def embedOnceSpec : ChangeSpec := { name := "embedOnce", fn := fun _ => fun
  | [d1, d2] => { results := [.lit (.bool true)], args := [d1, d2] }
  | _ => none }
def embedOnceRow : OpenClaim := { program := "ytjndolnjhbgflaa", sum := "eff7eefc23b05a94577692d1dec11914c9efb51e5fcf896c8a67fb711f26fee4", func := "calamus/calamuslaw10.EmbedOnce", spec := "embedOnce", recurses := true, apart := false }
def EmbedOnceSaid : Prop := embedOnceRow.holds Try.pinned (OpenSpec.ofChange embedOnceSpec)

/-- ITS FALSE NEIGHBOUR: 'it returns false'. Refute it at one input. -/
def embedOnceWrong : ChangeSpec := { name := "embedOnce", fn := fun _ => fun
  | [d1, d2] => { results := [.lit (.bool false)], args := [d1, d2] }
  | _ => none }
def EmbedOnceWrongFalsely : Prop := embedOnceRow.holds Try.pinned (OpenSpec.ofChange embedOnceWrong)

/-- 'calamuslaw10.EmbedWithout': WHATEVER THE INPUT: true; the input reads as it did. -/
def embedWithoutSpec : ChangeSpec := { name := "embedWithout", fn := fun _ => fun
  | [d1, d2, d3, d4] => { results := [.lit (.bool true)], args := [d1, d2, d3, d4] }
  | _ => none }
def embedWithoutRow : OpenClaim := { program := "ytjndolnjhbgflaa", sum := "eff7eefc23b05a94577692d1dec11914c9efb51e5fcf896c8a67fb711f26fee4", func := "calamus/calamuslaw10.EmbedWithout", spec := "embedWithout", apart := false }
def EmbedWithoutSaid : Prop := embedWithoutRow.holds Try.pinned (OpenSpec.ofChange embedWithoutSpec)

/-- ITS FALSE NEIGHBOUR: 'it returns false'. Refute it at one input. -/
def embedWithoutWrong : ChangeSpec := { name := "embedWithout", fn := fun _ => fun
  | [d1, d2, d3, d4] => { results := [.lit (.bool false)], args := [d1, d2, d3, d4] }
  | _ => none }
def EmbedWithoutWrongFalsely : Prop := embedWithoutRow.holds Try.pinned (OpenSpec.ofChange embedWithoutWrong)

/-- 'calamuslaw10.EmbedSingle': WHATEVER THE INPUT: true; the input reads as it did. -/
def embedSingleSpec : ChangeSpec := { name := "embedSingle", fn := fun _ => fun
  | [d1, d2, d3] => { results := [.lit (.bool true)], args := [d1, d2, d3] }
  | _ => none }
def embedSingleRow : OpenClaim := { program := "ytjndolnjhbgflaa", sum := "eff7eefc23b05a94577692d1dec11914c9efb51e5fcf896c8a67fb711f26fee4", func := "calamus/calamuslaw10.EmbedSingle", spec := "embedSingle", apart := false }
def EmbedSingleSaid : Prop := embedSingleRow.holds Try.pinned (OpenSpec.ofChange embedSingleSpec)

/-- ITS FALSE NEIGHBOUR: 'it returns false'. Refute it at one input. -/
def embedSingleWrong : ChangeSpec := { name := "embedSingle", fn := fun _ => fun
  | [d1, d2, d3] => { results := [.lit (.bool false)], args := [d1, d2, d3] }
  | _ => none }
def EmbedSingleWrongFalsely : Prop := embedSingleRow.holds Try.pinned (OpenSpec.ofChange embedSingleWrong)

/-- 'calamuslaw10.EmbedRuns': WHATEVER THE INPUT: true; the input reads as it did. -/
def embedRunsSpec : ChangeSpec := { name := "embedRuns", fn := fun _ => fun
  | [] => { results := [.lit (.bool true)], args := [] }
  | _ => none }
def embedRunsRow : OpenClaim := { program := "ytjndolnjhbgflaa", sum := "eff7eefc23b05a94577692d1dec11914c9efb51e5fcf896c8a67fb711f26fee4", func := "calamus/calamuslaw10.EmbedRuns", spec := "embedRuns", recurses := true, apart := false }
def EmbedRunsSaid : Prop := embedRunsRow.holds Try.pinned (OpenSpec.ofChange embedRunsSpec)

/-- ITS FALSE NEIGHBOUR: 'it returns false'. Refute it at one input. -/
def embedRunsWrong : ChangeSpec := { name := "embedRuns", fn := fun _ => fun
  | [] => { results := [.lit (.bool false)], args := [] }
  | _ => none }
def EmbedRunsWrongFalsely : Prop := embedRunsRow.holds Try.pinned (OpenSpec.ofChange embedRunsWrong)

/- THE SECOND FORM. 'bulk': how many values and letters a reading holds, each counted each time it is reached (what is shared counts as often as it is met; a slice's spare places count too). A statement '..UptoSaid' is the law's where the arguments, and the package variables that the reading takes, are together of bulk at most 1048576: NARROWER than '..Said'. Prove '..Said' where nothing that the law and all that it calls make is longer than what came in: it says more and counts as full. Else prove '..UptoSaid'. A law counts once. -/
mutual
def uptoBulk {H : Type} : DataW H → Nat
  | .lit (.string bytes) => bytes.length + 1
  | .lit _ => 1
  | .nil => 1
  | .ptr d => uptoBulk d + 1
  | .slice elems spare => uptoBulkAll elems + uptoBulkAll spare + 1
  | .agg parts => uptoBulkAll parts + 1
  | .iface _ d => uptoBulk d + 1
  | .map entries => uptoBulkEntries entries + 1
  | .held _ => 1
def uptoBulkAll {H : Type} : List (DataW H) → Nat
  | [] => 0
  | d :: r => uptoBulk d + uptoBulkAll r
def uptoBulkEntries {H : Type} : List (Lit × DataW H) → Nat
  | [] => 0
  | x :: r => uptoBulkEntry x + uptoBulkEntries r
def uptoBulkEntry {H : Type} : Lit × DataW H → Nat
  | (.string bytes, d) => bytes.length + uptoBulk d + 1
  | (_, d) => uptoBulk d + 1
 end
def uptoSmall : (H : Type) → List (DataW H) → Bool := fun _ ds => decide (uptoBulkAll ds ≤ 1048576)
def OpenSpec.upto (s : _root_.Go.ChangeSpec) : _root_.Go.OpenSpec := { _root_.Go.OpenSpec.ofChange s with cond := some uptoSmall }

/-- 'calamuslaw10.EmbedSequences', WHERE WHAT IT READS IS OF BULK AT MOST 1048576: true; the input reads as it did. -/
def embedSequencesUptoRow : OpenClaim := { program := "ytjndolnjhbgflaa", sum := "eff7eefc23b05a94577692d1dec11914c9efb51e5fcf896c8a67fb711f26fee4", func := "calamus/calamuslaw10.EmbedSequences", spec := "embedSequences", apart := false, narrowed := true }
def EmbedSequencesUptoSaid : Prop := embedSequencesUptoRow.holds Try.pinned (OpenSpec.upto embedSequencesSpec)

/-- 'calamuslaw10.EmbedOnce', WHERE WHAT IT READS IS OF BULK AT MOST 1048576: true; the input reads as it did. -/
def embedOnceUptoRow : OpenClaim := { program := "ytjndolnjhbgflaa", sum := "eff7eefc23b05a94577692d1dec11914c9efb51e5fcf896c8a67fb711f26fee4", func := "calamus/calamuslaw10.EmbedOnce", spec := "embedOnce", recurses := true, apart := false, narrowed := true }
def EmbedOnceUptoSaid : Prop := embedOnceUptoRow.holds Try.pinned (OpenSpec.upto embedOnceSpec)

/-- 'calamuslaw10.EmbedWithout', WHERE WHAT IT READS IS OF BULK AT MOST 1048576: true; the input reads as it did. -/
def embedWithoutUptoRow : OpenClaim := { program := "ytjndolnjhbgflaa", sum := "eff7eefc23b05a94577692d1dec11914c9efb51e5fcf896c8a67fb711f26fee4", func := "calamus/calamuslaw10.EmbedWithout", spec := "embedWithout", apart := false, narrowed := true }
def EmbedWithoutUptoSaid : Prop := embedWithoutUptoRow.holds Try.pinned (OpenSpec.upto embedWithoutSpec)

/-- 'calamuslaw10.EmbedSingle', WHERE WHAT IT READS IS OF BULK AT MOST 1048576: true; the input reads as it did. -/
def embedSingleUptoRow : OpenClaim := { program := "ytjndolnjhbgflaa", sum := "eff7eefc23b05a94577692d1dec11914c9efb51e5fcf896c8a67fb711f26fee4", func := "calamus/calamuslaw10.EmbedSingle", spec := "embedSingle", apart := false, narrowed := true }
def EmbedSingleUptoSaid : Prop := embedSingleUptoRow.holds Try.pinned (OpenSpec.upto embedSingleSpec)

/-- 'calamuslaw10.EmbedRuns', WHERE WHAT IT READS IS OF BULK AT MOST 1048576: true; the input reads as it did. -/
def embedRunsUptoRow : OpenClaim := { program := "ytjndolnjhbgflaa", sum := "eff7eefc23b05a94577692d1dec11914c9efb51e5fcf896c8a67fb711f26fee4", func := "calamus/calamuslaw10.EmbedRuns", spec := "embedRuns", recurses := true, apart := false, narrowed := true }
def EmbedRunsUptoSaid : Prop := embedRunsUptoRow.holds Try.pinned (OpenSpec.upto embedRunsSpec)

end Rows
end Go.Proofs.Ytjndolnjhbgflaa
