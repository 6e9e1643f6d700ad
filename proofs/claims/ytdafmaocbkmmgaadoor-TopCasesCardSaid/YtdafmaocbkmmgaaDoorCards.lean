/-
  DERIVED. GIVEN WITH THE SEED: THE CARDS: each row of YtdafmaocbkmmgaaDoorRows.lean that lists a variable, with what it lists TIED to the program's text (the seventh form; the later family's looks); each row that meets fmt, with fmt's text TOLD by the authors' own Lean function (tested against real Go, not proved from fmt's source: count such statements apart). THE CARD IS WHAT COUNTS. Prove the row's statement (the work); the ties are given (YtdafmaocbkmmgaaDoorTie.lean); close each card by the builder's one call (the guide's Derived/Test/ToyasCard.lean, 'card_holds'). Laid BY PROGRAM, IN A SANDBOX (cutbox-door.mjs). By AI agents, Wed Nov 11 2026. No macro, syntax, notation, axiom, sorry.
-/
import Derived.Test.YtdafmaocbkmmgaaDoorRows
import GoSem.ClaimSeven
namespace Go.Proofs.YtdafmaocbkmmgaaDoor
namespace Rows

/-- THE TIED CARD OF 'tollwaytop.TopCases'. -/
def topCasesCard : Claim7 := { stood := { row := topCasesRow, standIns := [], harness := (true, "bc45e2010c0095996e92b6ecac9211a4ded45ab3451e77e436676cc39057e55c"), looks := false }, kinds := [], alts := [], laidByText := true, laidKinds := [.data, .pinned], laidTests := true, laidLooks := .later }
def TopCasesCardSaid : Prop := Claim7.holds Tryd.pinned (.plain (OpenSpec.ofChange topCasesSpec)) topCasesCard

/-- THE SECOND FORM's CARD OF 'tollwaytop.TopCases'. -/
def topCasesUptoCard : Claim7 := { stood := { row := topCasesUptoRow, standIns := [], harness := (true, "bc45e2010c0095996e92b6ecac9211a4ded45ab3451e77e436676cc39057e55c"), looks := false }, kinds := [], alts := [], laidByText := true, laidKinds := [.data, .pinned], laidTests := true, laidLooks := .later }
def TopCasesUptoCardSaid : Prop := Claim7.holds Tryd.pinned (.plain (OpenSpec.upto topCasesSpec)) topCasesUptoCard
end Rows
end Go.Proofs.YtdafmaocbkmmgaaDoor
