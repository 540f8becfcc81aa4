/-
  NARROWER THAN 'FOR EVERY INPUT', by the rows' own cells (each row's printed sentence says how): JoiningForms: laid · JoiningPairs: laid · JoiningPasses: laid · JoiningAgree: laid · JoiningKnown: laid.
  DERIVED. THE GIVEN ROWS OF THIS SEAT. 5 by the template 'for every input the law returns true; each argument reads behind the call as it read before'; 0 by the template 'total and deterministic' (their statements: YtbdhgjaoojimmaaDoorTotals.lean).
  GIVEN WITH THE SEED: the statements are not yours to turn. If you find one false, say at which input.
  Laid BY PROGRAM, IN A SANDBOX (cutbox-rows.mjs): the forced cells as the released guide's own fill.sh prints them over the translation cc8d9a6a99e40504… (all of the seat's roots in one cut). By AI agents, Wed Nov 11 2026. No macro, syntax, notation, axiom, sorry.
-/
import Derived.Test.YtbdhgjaoojimmaaDoorChecked
import GoSem.Claim
import GoSem.ClaimJoined
import GoSem.ClaimMapViews
import Derived.JoinedTies
import Derived.KernelRfl
namespace Go.Proofs.YtbdhgjaoojimmaaDoor
/- THE CELL 'sum', in the pinned program and in every row, IS THE sha256 OF THE DUMP (.gsa) THAT YtbdhgjaoojimmaaDoorProg.lean LOADS. Nothing in Lean hashes anything: it is a label: what it is worth is what the hold of that sum in a sandbox is worth. -/
noncomputable def Tryd.pinned : Pinned := { name := "ytbdhgjaoojimmaadoor", sum := "cc8d9a6a99e405048d3eefca3d11202e5d7699c379f5baa47e7505d0b396a25c", checked := Tryd.checked }
namespace Rows
def none {H : Type} : Left H := { results := [], args := [] }

/- WHAT THE LISTED PACKAGE-LEVEL VARIABLES READ AS WHEN THE CALL BEGINS. Each datum BY PROGRAM (the guide's laid-datum.mjs) off the statement by which the dump's own 'gosem.cut.vars' lays the variable. In a bare row this is a premise. The card (YtbdhgjaoojimmaaDoorCards.lean) ties it to the program's text. -/
def laid_calamus_joining_formsJoined {H : Type} : DataW H := .agg [.agg [.lit (.int .u8 1), .lit (.int .u8 2)], .agg [.lit (.int .u8 4), .lit (.int .u8 3)]]

/-- 'calamuslaw15.JoiningForms': WHATEVER THE INPUT: true; the input reads as it did. -/
def joiningFormsSpec : ChangeSpec := { name := "joiningForms", fn := fun _ => fun
  | [d] => { results := [.lit (.bool true)], args := [d] }
  | _ => none }
def joiningFormsRow : OpenClaim := { program := "ytbdhgjaoojimmaadoor", sum := "cc8d9a6a99e405048d3eefca3d11202e5d7699c379f5baa47e7505d0b396a25c", func := "calamus/calamuslaw15.JoiningForms", spec := "joiningForms", unfollowed := true, recurses := true, named := ["calamus/joining.formsJoined"], apart := false, laid := [("calamus/joining.formsJoined", laid_calamus_joining_formsJoined)] }
def JoiningFormsSaid : Prop := joiningFormsRow.holds Tryd.pinned (OpenSpec.ofChange joiningFormsSpec)

/-- ITS FALSE NEIGHBOUR: 'it returns false'. Refute it at one input. -/
def joiningFormsWrong : ChangeSpec := { name := "joiningForms", fn := fun _ => fun
  | [d] => { results := [.lit (.bool false)], args := [d] }
  | _ => none }
def JoiningFormsWrongFalsely : Prop := joiningFormsRow.holds Tryd.pinned (OpenSpec.ofChange joiningFormsWrong)

/-- 'calamuslaw15.JoiningPairs': WHATEVER THE INPUT: true; the input reads as it did. -/
def joiningPairsSpec : ChangeSpec := { name := "joiningPairs", fn := fun _ => fun
  | [d1, d2] => { results := [.lit (.bool true)], args := [d1, d2] }
  | _ => none }
def joiningPairsRow : OpenClaim := { program := "ytbdhgjaoojimmaadoor", sum := "cc8d9a6a99e405048d3eefca3d11202e5d7699c379f5baa47e7505d0b396a25c", func := "calamus/calamuslaw15.JoiningPairs", spec := "joiningPairs", unfollowed := true, recurses := true, named := ["calamus/joining.formsJoined"], apart := false, laid := [("calamus/joining.formsJoined", laid_calamus_joining_formsJoined)] }
def JoiningPairsSaid : Prop := joiningPairsRow.holds Tryd.pinned (OpenSpec.ofChange joiningPairsSpec)

/-- ITS FALSE NEIGHBOUR: 'it returns false'. Refute it at one input. -/
def joiningPairsWrong : ChangeSpec := { name := "joiningPairs", fn := fun _ => fun
  | [d1, d2] => { results := [.lit (.bool false)], args := [d1, d2] }
  | _ => none }
def JoiningPairsWrongFalsely : Prop := joiningPairsRow.holds Tryd.pinned (OpenSpec.ofChange joiningPairsWrong)

/-- 'calamuslaw15.JoiningPasses': WHATEVER THE INPUT: true; the input reads as it did. -/
def joiningPassesSpec : ChangeSpec := { name := "joiningPasses", fn := fun _ => fun
  | [d1, d2] => { results := [.lit (.bool true)], args := [d1, d2] }
  | _ => none }
def joiningPassesRow : OpenClaim := { program := "ytbdhgjaoojimmaadoor", sum := "cc8d9a6a99e405048d3eefca3d11202e5d7699c379f5baa47e7505d0b396a25c", func := "calamus/calamuslaw15.JoiningPasses", spec := "joiningPasses", unfollowed := true, recurses := true, named := ["calamus/joining.formsJoined"], apart := false, laid := [("calamus/joining.formsJoined", laid_calamus_joining_formsJoined)] }
def JoiningPassesSaid : Prop := joiningPassesRow.holds Tryd.pinned (OpenSpec.ofChange joiningPassesSpec)

/-- ITS FALSE NEIGHBOUR: 'it returns false'. Refute it at one input. -/
def joiningPassesWrong : ChangeSpec := { name := "joiningPasses", fn := fun _ => fun
  | [d1, d2] => { results := [.lit (.bool false)], args := [d1, d2] }
  | _ => none }
def JoiningPassesWrongFalsely : Prop := joiningPassesRow.holds Tryd.pinned (OpenSpec.ofChange joiningPassesWrong)

/-- 'calamuslaw15.JoiningAgree': WHATEVER THE INPUT: true; the input reads as it did. -/
def joiningAgreeSpec : ChangeSpec := { name := "joiningAgree", fn := fun _ => fun
  | [d] => { results := [.lit (.bool true)], args := [d] }
  | _ => none }
def joiningAgreeRow : OpenClaim := { program := "ytbdhgjaoojimmaadoor", sum := "cc8d9a6a99e405048d3eefca3d11202e5d7699c379f5baa47e7505d0b396a25c", func := "calamus/calamuslaw15.JoiningAgree", spec := "joiningAgree", unfollowed := true, recurses := true, named := ["calamus/joining.formsJoined"], apart := false, laid := [("calamus/joining.formsJoined", laid_calamus_joining_formsJoined)] }
def JoiningAgreeSaid : Prop := joiningAgreeRow.holds Tryd.pinned (OpenSpec.ofChange joiningAgreeSpec)

/-- ITS FALSE NEIGHBOUR: 'it returns false'. Refute it at one input. -/
def joiningAgreeWrong : ChangeSpec := { name := "joiningAgree", fn := fun _ => fun
  | [d] => { results := [.lit (.bool false)], args := [d] }
  | _ => none }
def JoiningAgreeWrongFalsely : Prop := joiningAgreeRow.holds Tryd.pinned (OpenSpec.ofChange joiningAgreeWrong)

/-- 'calamuslaw15.JoiningKnown': WHATEVER THE INPUT: true; the input reads as it did. -/
def joiningKnownSpec : ChangeSpec := { name := "joiningKnown", fn := fun _ => fun
  | [] => { results := [.lit (.bool true)], args := [] }
  | _ => none }
def joiningKnownRow : OpenClaim := { program := "ytbdhgjaoojimmaadoor", sum := "cc8d9a6a99e405048d3eefca3d11202e5d7699c379f5baa47e7505d0b396a25c", func := "calamus/calamuslaw15.JoiningKnown", spec := "joiningKnown", unfollowed := true, recurses := true, named := ["calamus/joining.formsJoined"], apart := false, laid := [("calamus/joining.formsJoined", laid_calamus_joining_formsJoined)] }
def JoiningKnownSaid : Prop := joiningKnownRow.holds Tryd.pinned (OpenSpec.ofChange joiningKnownSpec)

/-- ITS FALSE NEIGHBOUR: 'it returns false'. Refute it at one input. -/
def joiningKnownWrong : ChangeSpec := { name := "joiningKnown", fn := fun _ => fun
  | [] => { results := [.lit (.bool false)], args := [] }
  | _ => none }
def JoiningKnownWrongFalsely : Prop := joiningKnownRow.holds Tryd.pinned (OpenSpec.ofChange joiningKnownWrong)

/- THE SECOND FORM. 'bulk': how many values and letters a reading holds, each counted each time it is reached (what is shared counts as often as it is met; a slice's spare places count too). A statement '..UptoSaid' is the law's where the arguments, and the package variables that the reading takes, are together of bulk at most 1048576: NARROWER than '..Said'. Prove '..Said' where nothing that the law and all that it calls make is longer than what came in: it says more and counts as full. Else prove '..UptoSaid'. A law counts once. -/
mutual
def uptoBulk {H : Type} : DataW H → Nat
  | .lit (.string bytes) => bytes.length + 1
  | .lit _ => 1
  | .nil => 1
  | .ptr d => uptoBulk d + 1
  | .slice elems spare => uptoBulkAll elems + uptoBulkAll spare + 1
  | .agg parts => uptoBulkAll parts + 1
  | .iface _ d => uptoBulk d + 1
  | .map entries => uptoBulkEntries entries + 1
  | .held _ => 1
def uptoBulkAll {H : Type} : List (DataW H) → Nat
  | [] => 0
  | d :: r => uptoBulk d + uptoBulkAll r
def uptoBulkEntries {H : Type} : List (Lit × DataW H) → Nat
  | [] => 0
  | x :: r => uptoBulkEntry x + uptoBulkEntries r
def uptoBulkEntry {H : Type} : Lit × DataW H → Nat
  | (.string bytes, d) => bytes.length + uptoBulk d + 1
  | (_, d) => uptoBulk d + 1
 end
def uptoSmall : (H : Type) → List (DataW H) → Bool := fun _ ds => decide (uptoBulkAll ds ≤ 1048576)
def OpenSpec.upto (s : _root_.Go.ChangeSpec) : _root_.Go.OpenSpec := { _root_.Go.OpenSpec.ofChange s with cond := some uptoSmall }

/-- 'calamuslaw15.JoiningForms', WHERE WHAT IT READS IS OF BULK AT MOST 1048576: true; the input reads as it did. -/
def joiningFormsUptoRow : OpenClaim := { program := "ytbdhgjaoojimmaadoor", sum := "cc8d9a6a99e405048d3eefca3d11202e5d7699c379f5baa47e7505d0b396a25c", func := "calamus/calamuslaw15.JoiningForms", spec := "joiningForms", unfollowed := true, recurses := true, named := ["calamus/joining.formsJoined"], apart := false, laid := [("calamus/joining.formsJoined", laid_calamus_joining_formsJoined)], narrowed := true }
def JoiningFormsUptoSaid : Prop := joiningFormsUptoRow.holds Tryd.pinned (OpenSpec.upto joiningFormsSpec)

/-- 'calamuslaw15.JoiningPairs', WHERE WHAT IT READS IS OF BULK AT MOST 1048576: true; the input reads as it did. -/
def joiningPairsUptoRow : OpenClaim := { program := "ytbdhgjaoojimmaadoor", sum := "cc8d9a6a99e405048d3eefca3d11202e5d7699c379f5baa47e7505d0b396a25c", func := "calamus/calamuslaw15.JoiningPairs", spec := "joiningPairs", unfollowed := true, recurses := true, named := ["calamus/joining.formsJoined"], apart := false, laid := [("calamus/joining.formsJoined", laid_calamus_joining_formsJoined)], narrowed := true }
def JoiningPairsUptoSaid : Prop := joiningPairsUptoRow.holds Tryd.pinned (OpenSpec.upto joiningPairsSpec)

/-- 'calamuslaw15.JoiningPasses', WHERE WHAT IT READS IS OF BULK AT MOST 1048576: true; the input reads as it did. -/
def joiningPassesUptoRow : OpenClaim := { program := "ytbdhgjaoojimmaadoor", sum := "cc8d9a6a99e405048d3eefca3d11202e5d7699c379f5baa47e7505d0b396a25c", func := "calamus/calamuslaw15.JoiningPasses", spec := "joiningPasses", unfollowed := true, recurses := true, named := ["calamus/joining.formsJoined"], apart := false, laid := [("calamus/joining.formsJoined", laid_calamus_joining_formsJoined)], narrowed := true }
def JoiningPassesUptoSaid : Prop := joiningPassesUptoRow.holds Tryd.pinned (OpenSpec.upto joiningPassesSpec)

/-- 'calamuslaw15.JoiningAgree', WHERE WHAT IT READS IS OF BULK AT MOST 1048576: true; the input reads as it did. -/
def joiningAgreeUptoRow : OpenClaim := { program := "ytbdhgjaoojimmaadoor", sum := "cc8d9a6a99e405048d3eefca3d11202e5d7699c379f5baa47e7505d0b396a25c", func := "calamus/calamuslaw15.JoiningAgree", spec := "joiningAgree", unfollowed := true, recurses := true, named := ["calamus/joining.formsJoined"], apart := false, laid := [("calamus/joining.formsJoined", laid_calamus_joining_formsJoined)], narrowed := true }
def JoiningAgreeUptoSaid : Prop := joiningAgreeUptoRow.holds Tryd.pinned (OpenSpec.upto joiningAgreeSpec)

/-- 'calamuslaw15.JoiningKnown', WHERE WHAT IT READS IS OF BULK AT MOST 1048576: true; the input reads as it did. -/
def joiningKnownUptoRow : OpenClaim := { program := "ytbdhgjaoojimmaadoor", sum := "cc8d9a6a99e405048d3eefca3d11202e5d7699c379f5baa47e7505d0b396a25c", func := "calamus/calamuslaw15.JoiningKnown", spec := "joiningKnown", unfollowed := true, recurses := true, named := ["calamus/joining.formsJoined"], apart := false, laid := [("calamus/joining.formsJoined", laid_calamus_joining_formsJoined)], narrowed := true }
def JoiningKnownUptoSaid : Prop := joiningKnownUptoRow.holds Tryd.pinned (OpenSpec.upto joiningKnownSpec)

end Rows
end Go.Proofs.YtbdhgjaoojimmaaDoor
