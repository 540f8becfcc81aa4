/-
  DERIVED. GIVEN WITH THE SEED: THE CARDS: each row of YtbdhgjaoojimmaaDoorRows.lean that lists a variable, with what it lists TIED to the program's text (the seventh form; the later family's looks); each row that meets fmt, with fmt's text TOLD by the authors' own Lean function (tested against real Go, not proved from fmt's source: count such statements apart). THE CARD IS WHAT COUNTS. Prove the row's statement (the work); the ties are given (YtbdhgjaoojimmaaDoorTie.lean); close each card by the builder's one call (the guide's Derived/Test/ToyasCard.lean, 'card_holds'). Laid BY PROGRAM, IN A SANDBOX (cutbox-door.mjs). By AI agents, Wed Nov 11 2026. No macro, syntax, notation, axiom, sorry.
-/
import Derived.Test.YtbdhgjaoojimmaaDoorRows
import GoSem.ClaimSeven
namespace Go.Proofs.YtbdhgjaoojimmaaDoor
namespace Rows

/-- THE TIED CARD OF 'calamuslaw15.JoiningForms'. -/
def joiningFormsCard : Claim7 := { stood := { row := joiningFormsRow, standIns := [], harness := (true, "dce03e9331b889be349a8cc0a55b43de17ff15f45bbad8288be9e62fe733b5ad"), looks := false }, kinds := [], alts := [], laidByText := true, laidKinds := [.data], laidTests := true, laidLooks := .later }
def JoiningFormsCardSaid : Prop := Claim7.holds Tryd.pinned (.plain (OpenSpec.ofChange joiningFormsSpec)) joiningFormsCard

/-- THE TIED CARD OF 'calamuslaw15.JoiningPairs'. -/
def joiningPairsCard : Claim7 := { stood := { row := joiningPairsRow, standIns := [], harness := (true, "dce03e9331b889be349a8cc0a55b43de17ff15f45bbad8288be9e62fe733b5ad"), looks := false }, kinds := [], alts := [], laidByText := true, laidKinds := [.data], laidTests := true, laidLooks := .later }
def JoiningPairsCardSaid : Prop := Claim7.holds Tryd.pinned (.plain (OpenSpec.ofChange joiningPairsSpec)) joiningPairsCard

/-- THE TIED CARD OF 'calamuslaw15.JoiningPasses'. -/
def joiningPassesCard : Claim7 := { stood := { row := joiningPassesRow, standIns := [], harness := (true, "dce03e9331b889be349a8cc0a55b43de17ff15f45bbad8288be9e62fe733b5ad"), looks := false }, kinds := [], alts := [], laidByText := true, laidKinds := [.data], laidTests := true, laidLooks := .later }
def JoiningPassesCardSaid : Prop := Claim7.holds Tryd.pinned (.plain (OpenSpec.ofChange joiningPassesSpec)) joiningPassesCard

/-- THE TIED CARD OF 'calamuslaw15.JoiningAgree'. -/
def joiningAgreeCard : Claim7 := { stood := { row := joiningAgreeRow, standIns := [], harness := (true, "dce03e9331b889be349a8cc0a55b43de17ff15f45bbad8288be9e62fe733b5ad"), looks := false }, kinds := [], alts := [], laidByText := true, laidKinds := [.data], laidTests := true, laidLooks := .later }
def JoiningAgreeCardSaid : Prop := Claim7.holds Tryd.pinned (.plain (OpenSpec.ofChange joiningAgreeSpec)) joiningAgreeCard

/-- THE TIED CARD OF 'calamuslaw15.JoiningKnown'. -/
def joiningKnownCard : Claim7 := { stood := { row := joiningKnownRow, standIns := [], harness := (true, "dce03e9331b889be349a8cc0a55b43de17ff15f45bbad8288be9e62fe733b5ad"), looks := false }, kinds := [], alts := [], laidByText := true, laidKinds := [.data], laidTests := true, laidLooks := .later }
def JoiningKnownCardSaid : Prop := Claim7.holds Tryd.pinned (.plain (OpenSpec.ofChange joiningKnownSpec)) joiningKnownCard

/-- THE SECOND FORM's CARD OF 'calamuslaw15.JoiningForms'. -/
def joiningFormsUptoCard : Claim7 := { stood := { row := joiningFormsUptoRow, standIns := [], harness := (true, "dce03e9331b889be349a8cc0a55b43de17ff15f45bbad8288be9e62fe733b5ad"), looks := false }, kinds := [], alts := [], laidByText := true, laidKinds := [.data], laidTests := true, laidLooks := .later }
def JoiningFormsUptoCardSaid : Prop := Claim7.holds Tryd.pinned (.plain (OpenSpec.upto joiningFormsSpec)) joiningFormsUptoCard

/-- THE SECOND FORM's CARD OF 'calamuslaw15.JoiningPairs'. -/
def joiningPairsUptoCard : Claim7 := { stood := { row := joiningPairsUptoRow, standIns := [], harness := (true, "dce03e9331b889be349a8cc0a55b43de17ff15f45bbad8288be9e62fe733b5ad"), looks := false }, kinds := [], alts := [], laidByText := true, laidKinds := [.data], laidTests := true, laidLooks := .later }
def JoiningPairsUptoCardSaid : Prop := Claim7.holds Tryd.pinned (.plain (OpenSpec.upto joiningPairsSpec)) joiningPairsUptoCard

/-- THE SECOND FORM's CARD OF 'calamuslaw15.JoiningPasses'. -/
def joiningPassesUptoCard : Claim7 := { stood := { row := joiningPassesUptoRow, standIns := [], harness := (true, "dce03e9331b889be349a8cc0a55b43de17ff15f45bbad8288be9e62fe733b5ad"), looks := false }, kinds := [], alts := [], laidByText := true, laidKinds := [.data], laidTests := true, laidLooks := .later }
def JoiningPassesUptoCardSaid : Prop := Claim7.holds Tryd.pinned (.plain (OpenSpec.upto joiningPassesSpec)) joiningPassesUptoCard

/-- THE SECOND FORM's CARD OF 'calamuslaw15.JoiningAgree'. -/
def joiningAgreeUptoCard : Claim7 := { stood := { row := joiningAgreeUptoRow, standIns := [], harness := (true, "dce03e9331b889be349a8cc0a55b43de17ff15f45bbad8288be9e62fe733b5ad"), looks := false }, kinds := [], alts := [], laidByText := true, laidKinds := [.data], laidTests := true, laidLooks := .later }
def JoiningAgreeUptoCardSaid : Prop := Claim7.holds Tryd.pinned (.plain (OpenSpec.upto joiningAgreeSpec)) joiningAgreeUptoCard

/-- THE SECOND FORM's CARD OF 'calamuslaw15.JoiningKnown'. -/
def joiningKnownUptoCard : Claim7 := { stood := { row := joiningKnownUptoRow, standIns := [], harness := (true, "dce03e9331b889be349a8cc0a55b43de17ff15f45bbad8288be9e62fe733b5ad"), looks := false }, kinds := [], alts := [], laidByText := true, laidKinds := [.data], laidTests := true, laidLooks := .later }
def JoiningKnownUptoCardSaid : Prop := Claim7.holds Tryd.pinned (.plain (OpenSpec.upto joiningKnownSpec)) joiningKnownUptoCard
end Rows
end Go.Proofs.YtbdhgjaoojimmaaDoor
