/-
  DERIVED. GIVEN WITH THE SEED: THE CARDS: each row of YtidloonhhckkgaaDoorRows.lean that lists a variable, with what it lists TIED to the program's text (the seventh form; the later family's looks); each row that meets fmt, with fmt's text TOLD by the authors' own Lean function (tested against real Go, not proved from fmt's source: count such statements apart). THE CARD IS WHAT COUNTS. Prove the row's statement (the work); the ties are given (YtidloonhhckkgaaDoorTie.lean); close each card by the builder's one call (the guide's Derived/Test/ToyasCard.lean, 'card_holds'). Laid BY PROGRAM, IN A SANDBOX (cutbox-door.mjs). By AI agents, Wed Nov 11 2026. No macro, syntax, notation, axiom, sorry.
-/
import Derived.Test.YtidloonhhckkgaaDoorRows
import GoSem.ClaimSeven
namespace Go.Proofs.YtidloonhhckkgaaDoor
namespace Rows

/-- THE TIED CARD OF 'tollwaylaw13.DetectOrders'. -/
def detectOrdersCard : Claim7 := { stood := { row := detectOrdersRow, standIns := [], harness := (true, "c6975b7960605b8fb220636111a818e2ccd134b8a43e58718dda11640cff7db6"), looks := false }, kinds := [], alts := [], laidByText := true, laidKinds := [.data, .pinned], laidTests := true, laidLooks := .later }
def DetectOrdersCardSaid : Prop := Claim7.holds Tryd.pinned (.plain (OpenSpec.ofChange detectOrdersSpec)) detectOrdersCard

/-- THE TIED CARD OF 'tollwaylaw13.DetectTotal'. -/
def detectTotalCard : Claim7 := { stood := { row := detectTotalRow, standIns := [], harness := (true, "c6975b7960605b8fb220636111a818e2ccd134b8a43e58718dda11640cff7db6"), looks := false }, kinds := [], alts := [], laidByText := true, laidKinds := [.data, .pinned], laidTests := true, laidLooks := .later }
def DetectTotalCardSaid : Prop := Claim7.holds Tryd.pinned (.plain (OpenSpec.ofChange detectTotalSpec)) detectTotalCard

/-- THE SECOND FORM's CARD OF 'tollwaylaw13.DetectOrders'. -/
def detectOrdersUptoCard : Claim7 := { stood := { row := detectOrdersUptoRow, standIns := [], harness := (true, "c6975b7960605b8fb220636111a818e2ccd134b8a43e58718dda11640cff7db6"), looks := false }, kinds := [], alts := [], laidByText := true, laidKinds := [.data, .pinned], laidTests := true, laidLooks := .later }
def DetectOrdersUptoCardSaid : Prop := Claim7.holds Tryd.pinned (.plain (OpenSpec.upto detectOrdersSpec)) detectOrdersUptoCard

/-- THE SECOND FORM's CARD OF 'tollwaylaw13.DetectTotal'. -/
def detectTotalUptoCard : Claim7 := { stood := { row := detectTotalUptoRow, standIns := [], harness := (true, "c6975b7960605b8fb220636111a818e2ccd134b8a43e58718dda11640cff7db6"), looks := false }, kinds := [], alts := [], laidByText := true, laidKinds := [.data, .pinned], laidTests := true, laidLooks := .later }
def DetectTotalUptoCardSaid : Prop := Claim7.holds Tryd.pinned (.plain (OpenSpec.upto detectTotalSpec)) detectTotalUptoCard
end Rows
end Go.Proofs.YtidloonhhckkgaaDoor
