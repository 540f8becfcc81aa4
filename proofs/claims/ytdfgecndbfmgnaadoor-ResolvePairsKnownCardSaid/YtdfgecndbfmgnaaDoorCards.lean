/-
  DERIVED. GIVEN WITH THE SEED: THE CARDS: each row of YtdfgecndbfmgnaaDoorRows.lean that lists a variable, with what it lists TIED to the program's text (the seventh form; the later family's looks); each row that meets fmt, with fmt's text TOLD by the authors' own Lean function (tested against real Go, not proved from fmt's source: count such statements apart). THE CARD IS WHAT COUNTS. Prove the row's statement (the work); the ties are given (YtdfgecndbfmgnaaDoorTie.lean); close each card by the builder's one call (the guide's Derived/Test/ToyasCard.lean, 'card_holds'). Laid BY PROGRAM, IN A SANDBOX (cutbox-door.mjs). By AI agents, Wed Nov 11 2026. No macro, syntax, notation, axiom, sorry.
-/
import Derived.Test.YtdfgecndbfmgnaaDoorRows
import GoSem.ClaimSeven
namespace Go.Proofs.YtdfgecndbfmgnaaDoor
namespace Rows

/-- THE TIED CARD OF 'calamuslaw11.ResolveBrackets'. -/
def resolveBracketsCard : Claim7 := { stood := { row := resolveBracketsRow, standIns := [], harness := (true, "6548934c2897dda9949784e6fae7cd19252f6fe9e54fe88593b414409226a235"), looks := false }, kinds := [], alts := [], laidByText := true, laidKinds := [.data], laidTests := true, laidLooks := .later }
def ResolveBracketsCardSaid : Prop := Claim7.holds Tryd.pinned (.plain (OpenSpec.ofChange resolveBracketsSpec)) resolveBracketsCard

/-- THE TIED CARD OF 'calamuslaw11.ResolvePairsKnown'. -/
def resolvePairsKnownCard : Claim7 := { stood := { row := resolvePairsKnownRow, standIns := [], harness := (true, "6548934c2897dda9949784e6fae7cd19252f6fe9e54fe88593b414409226a235"), looks := false }, kinds := [], alts := [], laidByText := true, laidKinds := [.data], laidTests := true, laidLooks := .later }
def ResolvePairsKnownCardSaid : Prop := Claim7.holds Tryd.pinned (.plain (OpenSpec.ofChange resolvePairsKnownSpec)) resolvePairsKnownCard

/-- THE SECOND FORM's CARD OF 'calamuslaw11.ResolveBrackets'. -/
def resolveBracketsUptoCard : Claim7 := { stood := { row := resolveBracketsUptoRow, standIns := [], harness := (true, "6548934c2897dda9949784e6fae7cd19252f6fe9e54fe88593b414409226a235"), looks := false }, kinds := [], alts := [], laidByText := true, laidKinds := [.data], laidTests := true, laidLooks := .later }
def ResolveBracketsUptoCardSaid : Prop := Claim7.holds Tryd.pinned (.plain (OpenSpec.upto resolveBracketsSpec)) resolveBracketsUptoCard

/-- THE SECOND FORM's CARD OF 'calamuslaw11.ResolvePairsKnown'. -/
def resolvePairsKnownUptoCard : Claim7 := { stood := { row := resolvePairsKnownUptoRow, standIns := [], harness := (true, "6548934c2897dda9949784e6fae7cd19252f6fe9e54fe88593b414409226a235"), looks := false }, kinds := [], alts := [], laidByText := true, laidKinds := [.data], laidTests := true, laidLooks := .later }
def ResolvePairsKnownUptoCardSaid : Prop := Claim7.holds Tryd.pinned (.plain (OpenSpec.upto resolvePairsKnownSpec)) resolvePairsKnownUptoCard
end Rows
end Go.Proofs.YtdfgecndbfmgnaaDoor
