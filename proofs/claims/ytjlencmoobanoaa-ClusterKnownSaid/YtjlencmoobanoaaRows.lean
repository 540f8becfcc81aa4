/-
  No cell of these rows narrows 'for every input' (looked for: loops, veiled, ifaces, maps, wideKeys, modest, calm, conditions, laid).
  DERIVED. THE GIVEN ROWS OF THIS SEAT. 5 by the template 'for every input the law returns true; each argument reads behind the call as it read before'; 0 by the template 'total and deterministic' (their statements: YtjlencmoobanoaaTotals.lean).
  GIVEN WITH THE SEED: the statements are not yours to turn. If you find one false, say at which input.
  Laid BY PROGRAM, IN A SANDBOX (cutbox-rows.mjs): the forced cells as the released guide's own fill.sh prints them over the translation b42d77368735d887… (all of the seat's roots in one cut). By AI agents, Wed Nov 11 2026. No macro, syntax, notation, axiom, sorry.
-/
import Derived.Test.YtjlencmoobanoaaChecked
import GoSem.Claim
import GoSem.ClaimJoined
import GoSem.ClaimMapViews
import Derived.JoinedTies
import Derived.KernelRfl
namespace Go.Proofs.Ytjlencmoobanoaa
/- THE CELL 'sum', in the pinned program and in every row, IS THE sha256 OF THE DUMP (.gsa) THAT YtjlencmoobanoaaProg.lean LOADS. Nothing in Lean hashes anything: it is a label: what it is worth is what the hold of that sum in a sandbox is worth. -/
noncomputable def Try.pinned : Pinned := { name := "ytjlencmoobanoaa", sum := "b42d77368735d887f05b510c47653fbccc83dd00e21dfc32dd31f0233896e263", checked := Try.checked }
namespace Rows
def none {H : Type} : Left H := { results := [], args := [] }

/-- 'calamuslaw03.ClusterBounds': WHATEVER THE INPUT: true; the input reads as it did. -/
def clusterBoundsSpec : ChangeSpec := { name := "clusterBounds", fn := fun _ => fun
  | [d] => { results := [.lit (.bool true)], args := [d] }
  | _ => none }
def clusterBoundsRow : OpenClaim := { program := "ytjlencmoobanoaa", sum := "b42d77368735d887f05b510c47653fbccc83dd00e21dfc32dd31f0233896e263", func := "calamus/calamuslaw03.ClusterBounds", spec := "clusterBounds", unfollowed := true, recurses := true, apart := false }
def ClusterBoundsSaid : Prop := clusterBoundsRow.holds Try.pinned (OpenSpec.ofChange clusterBoundsSpec)

/-- ITS FALSE NEIGHBOUR: 'it returns false'. Refute it at one input. -/
def clusterBoundsWrong : ChangeSpec := { name := "clusterBounds", fn := fun _ => fun
  | [d] => { results := [.lit (.bool false)], args := [d] }
  | _ => none }
def ClusterBoundsWrongFalsely : Prop := clusterBoundsRow.holds Try.pinned (OpenSpec.ofChange clusterBoundsWrong)

/-- 'calamuslaw03.ClusterParted': WHATEVER THE INPUT: true; the input reads as it did. -/
def clusterPartedSpec : ChangeSpec := { name := "clusterParted", fn := fun _ => fun
  | [d1, d2] => { results := [.lit (.bool true)], args := [d1, d2] }
  | _ => none }
def clusterPartedRow : OpenClaim := { program := "ytjlencmoobanoaa", sum := "b42d77368735d887f05b510c47653fbccc83dd00e21dfc32dd31f0233896e263", func := "calamus/calamuslaw03.ClusterParted", spec := "clusterParted", unfollowed := true, recurses := true, apart := false }
def ClusterPartedSaid : Prop := clusterPartedRow.holds Try.pinned (OpenSpec.ofChange clusterPartedSpec)

/-- ITS FALSE NEIGHBOUR: 'it returns false'. Refute it at one input. -/
def clusterPartedWrong : ChangeSpec := { name := "clusterParted", fn := fun _ => fun
  | [d1, d2] => { results := [.lit (.bool false)], args := [d1, d2] }
  | _ => none }
def ClusterPartedWrongFalsely : Prop := clusterPartedRow.holds Try.pinned (OpenSpec.ofChange clusterPartedWrong)

/-- 'calamuslaw03.ClusterAlone': WHATEVER THE INPUT: true; the input reads as it did. -/
def clusterAloneSpec : ChangeSpec := { name := "clusterAlone", fn := fun _ => fun
  | [d] => { results := [.lit (.bool true)], args := [d] }
  | _ => none }
def clusterAloneRow : OpenClaim := { program := "ytjlencmoobanoaa", sum := "b42d77368735d887f05b510c47653fbccc83dd00e21dfc32dd31f0233896e263", func := "calamus/calamuslaw03.ClusterAlone", spec := "clusterAlone", unfollowed := true, recurses := true, apart := false }
def ClusterAloneSaid : Prop := clusterAloneRow.holds Try.pinned (OpenSpec.ofChange clusterAloneSpec)

/-- ITS FALSE NEIGHBOUR: 'it returns false'. Refute it at one input. -/
def clusterAloneWrong : ChangeSpec := { name := "clusterAlone", fn := fun _ => fun
  | [d] => { results := [.lit (.bool false)], args := [d] }
  | _ => none }
def ClusterAloneWrongFalsely : Prop := clusterAloneRow.holds Try.pinned (OpenSpec.ofChange clusterAloneWrong)

/-- 'calamuslaw03.ClusterBehind': WHATEVER THE INPUT: true; the input reads as it did. -/
def clusterBehindSpec : ChangeSpec := { name := "clusterBehind", fn := fun _ => fun
  | [d1, d2] => { results := [.lit (.bool true)], args := [d1, d2] }
  | _ => none }
def clusterBehindRow : OpenClaim := { program := "ytjlencmoobanoaa", sum := "b42d77368735d887f05b510c47653fbccc83dd00e21dfc32dd31f0233896e263", func := "calamus/calamuslaw03.ClusterBehind", spec := "clusterBehind", unfollowed := true, recurses := true, apart := false }
def ClusterBehindSaid : Prop := clusterBehindRow.holds Try.pinned (OpenSpec.ofChange clusterBehindSpec)

/-- ITS FALSE NEIGHBOUR: 'it returns false'. Refute it at one input. -/
def clusterBehindWrong : ChangeSpec := { name := "clusterBehind", fn := fun _ => fun
  | [d1, d2] => { results := [.lit (.bool false)], args := [d1, d2] }
  | _ => none }
def ClusterBehindWrongFalsely : Prop := clusterBehindRow.holds Try.pinned (OpenSpec.ofChange clusterBehindWrong)

/-- 'calamuslaw03.ClusterKnown': WHATEVER THE INPUT: true; the input reads as it did. -/
def clusterKnownSpec : ChangeSpec := { name := "clusterKnown", fn := fun _ => fun
  | [] => { results := [.lit (.bool true)], args := [] }
  | _ => none }
def clusterKnownRow : OpenClaim := { program := "ytjlencmoobanoaa", sum := "b42d77368735d887f05b510c47653fbccc83dd00e21dfc32dd31f0233896e263", func := "calamus/calamuslaw03.ClusterKnown", spec := "clusterKnown", unfollowed := true, recurses := true, apart := false }
def ClusterKnownSaid : Prop := clusterKnownRow.holds Try.pinned (OpenSpec.ofChange clusterKnownSpec)

/-- ITS FALSE NEIGHBOUR: 'it returns false'. Refute it at one input. -/
def clusterKnownWrong : ChangeSpec := { name := "clusterKnown", fn := fun _ => fun
  | [] => { results := [.lit (.bool false)], args := [] }
  | _ => none }
def ClusterKnownWrongFalsely : Prop := clusterKnownRow.holds Try.pinned (OpenSpec.ofChange clusterKnownWrong)

/- THE SECOND FORM. 'bulk': how many values and letters a reading holds, each counted each time it is reached (what is shared counts as often as it is met; a slice's spare places count too). A statement '..UptoSaid' is the law's where the arguments, and the package variables that the reading takes, are together of bulk at most 1048576: NARROWER than '..Said'. Prove '..Said' where nothing that the law and all that it calls make is longer than what came in: it says more and counts as full. Else prove '..UptoSaid'. A law counts once. -/
mutual
def uptoBulk {H : Type} : DataW H → Nat
  | .lit (.string bytes) => bytes.length + 1
  | .lit _ => 1
  | .nil => 1
  | .ptr d => uptoBulk d + 1
  | .slice elems spare => uptoBulkAll elems + uptoBulkAll spare + 1
  | .agg parts => uptoBulkAll parts + 1
  | .iface _ d => uptoBulk d + 1
  | .map entries => uptoBulkEntries entries + 1
  | .held _ => 1
def uptoBulkAll {H : Type} : List (DataW H) → Nat
  | [] => 0
  | d :: r => uptoBulk d + uptoBulkAll r
def uptoBulkEntries {H : Type} : List (Lit × DataW H) → Nat
  | [] => 0
  | x :: r => uptoBulkEntry x + uptoBulkEntries r
def uptoBulkEntry {H : Type} : Lit × DataW H → Nat
  | (.string bytes, d) => bytes.length + uptoBulk d + 1
  | (_, d) => uptoBulk d + 1
 end
def uptoSmall : (H : Type) → List (DataW H) → Bool := fun _ ds => decide (uptoBulkAll ds ≤ 1048576)
def OpenSpec.upto (s : _root_.Go.ChangeSpec) : _root_.Go.OpenSpec := { _root_.Go.OpenSpec.ofChange s with cond := some uptoSmall }

/-- 'calamuslaw03.ClusterBounds', WHERE WHAT IT READS IS OF BULK AT MOST 1048576: true; the input reads as it did. -/
def clusterBoundsUptoRow : OpenClaim := { program := "ytjlencmoobanoaa", sum := "b42d77368735d887f05b510c47653fbccc83dd00e21dfc32dd31f0233896e263", func := "calamus/calamuslaw03.ClusterBounds", spec := "clusterBounds", unfollowed := true, recurses := true, apart := false, narrowed := true }
def ClusterBoundsUptoSaid : Prop := clusterBoundsUptoRow.holds Try.pinned (OpenSpec.upto clusterBoundsSpec)

/-- 'calamuslaw03.ClusterParted', WHERE WHAT IT READS IS OF BULK AT MOST 1048576: true; the input reads as it did. -/
def clusterPartedUptoRow : OpenClaim := { program := "ytjlencmoobanoaa", sum := "b42d77368735d887f05b510c47653fbccc83dd00e21dfc32dd31f0233896e263", func := "calamus/calamuslaw03.ClusterParted", spec := "clusterParted", unfollowed := true, recurses := true, apart := false, narrowed := true }
def ClusterPartedUptoSaid : Prop := clusterPartedUptoRow.holds Try.pinned (OpenSpec.upto clusterPartedSpec)

/-- 'calamuslaw03.ClusterAlone', WHERE WHAT IT READS IS OF BULK AT MOST 1048576: true; the input reads as it did. -/
def clusterAloneUptoRow : OpenClaim := { program := "ytjlencmoobanoaa", sum := "b42d77368735d887f05b510c47653fbccc83dd00e21dfc32dd31f0233896e263", func := "calamus/calamuslaw03.ClusterAlone", spec := "clusterAlone", unfollowed := true, recurses := true, apart := false, narrowed := true }
def ClusterAloneUptoSaid : Prop := clusterAloneUptoRow.holds Try.pinned (OpenSpec.upto clusterAloneSpec)

/-- 'calamuslaw03.ClusterBehind', WHERE WHAT IT READS IS OF BULK AT MOST 1048576: true; the input reads as it did. -/
def clusterBehindUptoRow : OpenClaim := { program := "ytjlencmoobanoaa", sum := "b42d77368735d887f05b510c47653fbccc83dd00e21dfc32dd31f0233896e263", func := "calamus/calamuslaw03.ClusterBehind", spec := "clusterBehind", unfollowed := true, recurses := true, apart := false, narrowed := true }
def ClusterBehindUptoSaid : Prop := clusterBehindUptoRow.holds Try.pinned (OpenSpec.upto clusterBehindSpec)

/-- 'calamuslaw03.ClusterKnown', WHERE WHAT IT READS IS OF BULK AT MOST 1048576: true; the input reads as it did. -/
def clusterKnownUptoRow : OpenClaim := { program := "ytjlencmoobanoaa", sum := "b42d77368735d887f05b510c47653fbccc83dd00e21dfc32dd31f0233896e263", func := "calamus/calamuslaw03.ClusterKnown", spec := "clusterKnown", unfollowed := true, recurses := true, apart := false, narrowed := true }
def ClusterKnownUptoSaid : Prop := clusterKnownUptoRow.holds Try.pinned (OpenSpec.upto clusterKnownSpec)

end Rows
end Go.Proofs.Ytjlencmoobanoaa
