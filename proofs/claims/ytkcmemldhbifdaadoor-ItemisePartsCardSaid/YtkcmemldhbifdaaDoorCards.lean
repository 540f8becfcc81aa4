/-
  DERIVED. GIVEN WITH THE SEED: THE CARDS: each row of YtkcmemldhbifdaaDoorRows.lean that lists a variable, with what it lists TIED to the program's text (the seventh form; the later family's looks); each row that meets fmt, with fmt's text TOLD by the authors' own Lean function (tested against real Go, not proved from fmt's source: count such statements apart). THE CARD IS WHAT COUNTS. Prove the row's statement (the work); the ties are given (YtkcmemldhbifdaaDoorTie.lean); close each card by the builder's one call (the guide's Derived/Test/ToyasCard.lean, 'card_holds'). Laid BY PROGRAM, IN A SANDBOX (cutbox-door.mjs). By AI agents, Wed Nov 11 2026. No macro, syntax, notation, axiom, sorry.
-/
import Derived.Test.YtkcmemldhbifdaaDoorRows
import GoSem.ClaimSeven
namespace Go.Proofs.YtkcmemldhbifdaaDoor
namespace Rows

/-- THE TIED CARD OF 'calamuslaw14.ItemiseScripts'. -/
def itemiseScriptsCard : Claim7 := { stood := { row := itemiseScriptsRow, standIns := [], harness := (true, "bc2d131288ada6ff0fb96d74f69b84a00745120331f803092d3c33cdcbc33295"), looks := false }, kinds := [], alts := [], laidByText := true, laidKinds := [.data], laidTests := true, laidLooks := .later }
def ItemiseScriptsCardSaid : Prop := Claim7.holds Tryd.pinned (.plain (OpenSpec.ofChange itemiseScriptsSpec)) itemiseScriptsCard

/-- THE TIED CARD OF 'calamuslaw14.ItemiseRuns'. -/
def itemiseRunsCard : Claim7 := { stood := { row := itemiseRunsRow, standIns := [], harness := (true, "bc2d131288ada6ff0fb96d74f69b84a00745120331f803092d3c33cdcbc33295"), looks := false }, kinds := [], alts := [], laidByText := true, laidKinds := [.data], laidTests := true, laidLooks := .later }
def ItemiseRunsCardSaid : Prop := Claim7.holds Tryd.pinned (.plain (OpenSpec.ofChange itemiseRunsSpec)) itemiseRunsCard

/-- THE TIED CARD OF 'calamuslaw14.ItemiseTiles'. -/
def itemiseTilesCard : Claim7 := { stood := { row := itemiseTilesRow, standIns := [], harness := (true, "bc2d131288ada6ff0fb96d74f69b84a00745120331f803092d3c33cdcbc33295"), looks := false }, kinds := [], alts := [], laidByText := true, laidKinds := [.data], laidTests := true, laidLooks := .later }
def ItemiseTilesCardSaid : Prop := Claim7.holds Tryd.pinned (.plain (OpenSpec.ofChange itemiseTilesSpec)) itemiseTilesCard

/-- THE TIED CARD OF 'calamuslaw14.ItemiseParts'. -/
def itemisePartsCard : Claim7 := { stood := { row := itemisePartsRow, standIns := [], harness := (true, "bc2d131288ada6ff0fb96d74f69b84a00745120331f803092d3c33cdcbc33295"), looks := false }, kinds := [], alts := [], laidByText := true, laidKinds := [.data], laidTests := true, laidLooks := .later }
def ItemisePartsCardSaid : Prop := Claim7.holds Tryd.pinned (.plain (OpenSpec.ofChange itemisePartsSpec)) itemisePartsCard

/-- THE TIED CARD OF 'calamuslaw14.ItemiseKnown'. -/
def itemiseKnownCard : Claim7 := { stood := { row := itemiseKnownRow, standIns := [], harness := (true, "bc2d131288ada6ff0fb96d74f69b84a00745120331f803092d3c33cdcbc33295"), looks := false }, kinds := [], alts := [], laidByText := true, laidKinds := [.data], laidTests := true, laidLooks := .later }
def ItemiseKnownCardSaid : Prop := Claim7.holds Tryd.pinned (.plain (OpenSpec.ofChange itemiseKnownSpec)) itemiseKnownCard

/-- THE SECOND FORM's CARD OF 'calamuslaw14.ItemiseScripts'. -/
def itemiseScriptsUptoCard : Claim7 := { stood := { row := itemiseScriptsUptoRow, standIns := [], harness := (true, "bc2d131288ada6ff0fb96d74f69b84a00745120331f803092d3c33cdcbc33295"), looks := false }, kinds := [], alts := [], laidByText := true, laidKinds := [.data], laidTests := true, laidLooks := .later }
def ItemiseScriptsUptoCardSaid : Prop := Claim7.holds Tryd.pinned (.plain (OpenSpec.upto itemiseScriptsSpec)) itemiseScriptsUptoCard

/-- THE SECOND FORM's CARD OF 'calamuslaw14.ItemiseRuns'. -/
def itemiseRunsUptoCard : Claim7 := { stood := { row := itemiseRunsUptoRow, standIns := [], harness := (true, "bc2d131288ada6ff0fb96d74f69b84a00745120331f803092d3c33cdcbc33295"), looks := false }, kinds := [], alts := [], laidByText := true, laidKinds := [.data], laidTests := true, laidLooks := .later }
def ItemiseRunsUptoCardSaid : Prop := Claim7.holds Tryd.pinned (.plain (OpenSpec.upto itemiseRunsSpec)) itemiseRunsUptoCard

/-- THE SECOND FORM's CARD OF 'calamuslaw14.ItemiseTiles'. -/
def itemiseTilesUptoCard : Claim7 := { stood := { row := itemiseTilesUptoRow, standIns := [], harness := (true, "bc2d131288ada6ff0fb96d74f69b84a00745120331f803092d3c33cdcbc33295"), looks := false }, kinds := [], alts := [], laidByText := true, laidKinds := [.data], laidTests := true, laidLooks := .later }
def ItemiseTilesUptoCardSaid : Prop := Claim7.holds Tryd.pinned (.plain (OpenSpec.upto itemiseTilesSpec)) itemiseTilesUptoCard

/-- THE SECOND FORM's CARD OF 'calamuslaw14.ItemiseParts'. -/
def itemisePartsUptoCard : Claim7 := { stood := { row := itemisePartsUptoRow, standIns := [], harness := (true, "bc2d131288ada6ff0fb96d74f69b84a00745120331f803092d3c33cdcbc33295"), looks := false }, kinds := [], alts := [], laidByText := true, laidKinds := [.data], laidTests := true, laidLooks := .later }
def ItemisePartsUptoCardSaid : Prop := Claim7.holds Tryd.pinned (.plain (OpenSpec.upto itemisePartsSpec)) itemisePartsUptoCard

/-- THE SECOND FORM's CARD OF 'calamuslaw14.ItemiseKnown'. -/
def itemiseKnownUptoCard : Claim7 := { stood := { row := itemiseKnownUptoRow, standIns := [], harness := (true, "bc2d131288ada6ff0fb96d74f69b84a00745120331f803092d3c33cdcbc33295"), looks := false }, kinds := [], alts := [], laidByText := true, laidKinds := [.data], laidTests := true, laidLooks := .later }
def ItemiseKnownUptoCardSaid : Prop := Claim7.holds Tryd.pinned (.plain (OpenSpec.upto itemiseKnownSpec)) itemiseKnownUptoCard
end Rows
end Go.Proofs.YtkcmemldhbifdaaDoor
