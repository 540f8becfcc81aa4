/-
  DERIVED. GIVEN WITH THE SEED: THE CARDS: each row of YtjpdhfolfmamcaaDoorRows.lean that lists a variable, with what it lists TIED to the program's text (the seventh form; the later family's looks); each row that meets fmt, with fmt's text TOLD by the authors' own Lean function (tested against real Go, not proved from fmt's source: count such statements apart). THE CARD IS WHAT COUNTS. Prove the row's statement (the work); the ties are given (YtjpdhfolfmamcaaDoorTie.lean); close each card by the builder's one call (the guide's Derived/Test/ToyasCard.lean, 'card_holds'). Laid BY PROGRAM, IN A SANDBOX (cutbox-door.mjs). By AI agents, Wed Nov 11 2026. No macro, syntax, notation, axiom, sorry.
-/
import Derived.Test.YtjpdhfolfmamcaaDoorRows
import GoSem.ClaimSeven
namespace Go.Proofs.YtjpdhfolfmamcaaDoor
namespace Rows

/-- THE TIED CARD OF 'calamuslaw02.UcdTables'. -/
def ucdTablesCard : Claim7 := { stood := { row := ucdTablesRow, standIns := [], harness := (true, "876355bebc859bd0ecc7f020d77633f93558110e4818dc18b73f88cf1de7f8d3"), looks := false }, kinds := [], alts := [], laidByText := true, laidKinds := [.data, .pinned], laidTests := true, laidLooks := .later }
def UcdTablesCardSaid : Prop := Claim7.holds Tryd.pinned (.plain (OpenSpec.ofChange ucdTablesSpec)) ucdTablesCard

/-- THE TIED CARD OF 'calamuslaw02.UcdBrackets'. -/
def ucdBracketsCard : Claim7 := { stood := { row := ucdBracketsRow, standIns := [], harness := (true, "876355bebc859bd0ecc7f020d77633f93558110e4818dc18b73f88cf1de7f8d3"), looks := false }, kinds := [], alts := [], laidByText := true, laidKinds := [.data, .data, .pinned], laidTests := true, laidLooks := .later }
def UcdBracketsCardSaid : Prop := Claim7.holds Tryd.pinned (.plain (OpenSpec.ofChange ucdBracketsSpec)) ucdBracketsCard

/-- THE TIED CARD OF 'calamuslaw02.UcdDecodes'. -/
def ucdDecodesCard : Claim7 := { stood := { row := ucdDecodesRow, standIns := [], harness := (true, "876355bebc859bd0ecc7f020d77633f93558110e4818dc18b73f88cf1de7f8d3"), looks := false }, kinds := [], alts := [], laidByText := true, laidKinds := [.data, .pinned], laidTests := true, laidLooks := .later }
def UcdDecodesCardSaid : Prop := Claim7.holds Tryd.pinned (.plain (OpenSpec.ofChange ucdDecodesSpec)) ucdDecodesCard

/-- THE TIED CARD OF 'calamuslaw02.UcdBack'. -/
def ucdBackCard : Claim7 := { stood := { row := ucdBackRow, standIns := [], harness := (true, "876355bebc859bd0ecc7f020d77633f93558110e4818dc18b73f88cf1de7f8d3"), looks := false }, kinds := [], alts := [], laidByText := true, laidKinds := [.data, .pinned], laidTests := true, laidLooks := .later }
def UcdBackCardSaid : Prop := Claim7.holds Tryd.pinned (.plain (OpenSpec.ofChange ucdBackSpec)) ucdBackCard

/-- THE TIED CARD OF 'calamuslaw02.UcdHolds'. -/
def ucdHoldsCard : Claim7 := { stood := { row := ucdHoldsRow, standIns := [], harness := (true, "876355bebc859bd0ecc7f020d77633f93558110e4818dc18b73f88cf1de7f8d3"), looks := false }, kinds := [], alts := [], laidByText := true, laidKinds := [.data, .data, .pinned], laidTests := true, laidLooks := .later }
def UcdHoldsCardSaid : Prop := Claim7.holds Tryd.pinned (.plain (OpenSpec.ofChange ucdHoldsSpec)) ucdHoldsCard

/-- THE TIED CARD OF 'calamuslaw02.UcdKnown'. -/
def ucdKnownCard : Claim7 := { stood := { row := ucdKnownRow, standIns := [], harness := (true, "876355bebc859bd0ecc7f020d77633f93558110e4818dc18b73f88cf1de7f8d3"), looks := false }, kinds := [], alts := [], laidByText := true, laidKinds := [.data, .data, .pinned], laidTests := true, laidLooks := .later }
def UcdKnownCardSaid : Prop := Claim7.holds Tryd.pinned (.plain (OpenSpec.ofChange ucdKnownSpec)) ucdKnownCard

/-- THE SECOND FORM's CARD OF 'calamuslaw02.UcdTables'. -/
def ucdTablesUptoCard : Claim7 := { stood := { row := ucdTablesUptoRow, standIns := [], harness := (true, "876355bebc859bd0ecc7f020d77633f93558110e4818dc18b73f88cf1de7f8d3"), looks := false }, kinds := [], alts := [], laidByText := true, laidKinds := [.data, .pinned], laidTests := true, laidLooks := .later }
def UcdTablesUptoCardSaid : Prop := Claim7.holds Tryd.pinned (.plain (OpenSpec.upto ucdTablesSpec)) ucdTablesUptoCard

/-- THE SECOND FORM's CARD OF 'calamuslaw02.UcdBrackets'. -/
def ucdBracketsUptoCard : Claim7 := { stood := { row := ucdBracketsUptoRow, standIns := [], harness := (true, "876355bebc859bd0ecc7f020d77633f93558110e4818dc18b73f88cf1de7f8d3"), looks := false }, kinds := [], alts := [], laidByText := true, laidKinds := [.data, .data, .pinned], laidTests := true, laidLooks := .later }
def UcdBracketsUptoCardSaid : Prop := Claim7.holds Tryd.pinned (.plain (OpenSpec.upto ucdBracketsSpec)) ucdBracketsUptoCard

/-- THE SECOND FORM's CARD OF 'calamuslaw02.UcdDecodes'. -/
def ucdDecodesUptoCard : Claim7 := { stood := { row := ucdDecodesUptoRow, standIns := [], harness := (true, "876355bebc859bd0ecc7f020d77633f93558110e4818dc18b73f88cf1de7f8d3"), looks := false }, kinds := [], alts := [], laidByText := true, laidKinds := [.data, .pinned], laidTests := true, laidLooks := .later }
def UcdDecodesUptoCardSaid : Prop := Claim7.holds Tryd.pinned (.plain (OpenSpec.upto ucdDecodesSpec)) ucdDecodesUptoCard

/-- THE SECOND FORM's CARD OF 'calamuslaw02.UcdBack'. -/
def ucdBackUptoCard : Claim7 := { stood := { row := ucdBackUptoRow, standIns := [], harness := (true, "876355bebc859bd0ecc7f020d77633f93558110e4818dc18b73f88cf1de7f8d3"), looks := false }, kinds := [], alts := [], laidByText := true, laidKinds := [.data, .pinned], laidTests := true, laidLooks := .later }
def UcdBackUptoCardSaid : Prop := Claim7.holds Tryd.pinned (.plain (OpenSpec.upto ucdBackSpec)) ucdBackUptoCard

/-- THE SECOND FORM's CARD OF 'calamuslaw02.UcdHolds'. -/
def ucdHoldsUptoCard : Claim7 := { stood := { row := ucdHoldsUptoRow, standIns := [], harness := (true, "876355bebc859bd0ecc7f020d77633f93558110e4818dc18b73f88cf1de7f8d3"), looks := false }, kinds := [], alts := [], laidByText := true, laidKinds := [.data, .data, .pinned], laidTests := true, laidLooks := .later }
def UcdHoldsUptoCardSaid : Prop := Claim7.holds Tryd.pinned (.plain (OpenSpec.upto ucdHoldsSpec)) ucdHoldsUptoCard

/-- THE SECOND FORM's CARD OF 'calamuslaw02.UcdKnown'. -/
def ucdKnownUptoCard : Claim7 := { stood := { row := ucdKnownUptoRow, standIns := [], harness := (true, "876355bebc859bd0ecc7f020d77633f93558110e4818dc18b73f88cf1de7f8d3"), looks := false }, kinds := [], alts := [], laidByText := true, laidKinds := [.data, .data, .pinned], laidTests := true, laidLooks := .later }
def UcdKnownUptoCardSaid : Prop := Claim7.holds Tryd.pinned (.plain (OpenSpec.upto ucdKnownSpec)) ucdKnownUptoCard
end Rows
end Go.Proofs.YtjpdhfolfmamcaaDoor
