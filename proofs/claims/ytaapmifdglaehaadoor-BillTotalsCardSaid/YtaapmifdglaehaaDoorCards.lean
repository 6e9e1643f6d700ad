/-
  DERIVED. GIVEN WITH THE SEED: THE CARDS: each row of YtaapmifdglaehaaDoorRows.lean that lists a variable, with what it lists TIED to the program's text (the seventh form; the later family's looks); each row that meets fmt, with fmt's text TOLD by the authors' own Lean function (tested against real Go, not proved from fmt's source: count such statements apart). THE CARD IS WHAT COUNTS. Prove the row's statement (the work); the ties are given (YtaapmifdglaehaaDoorTie.lean); close each card by the builder's one call (the guide's Derived/Test/ToyasCard.lean, 'card_holds'). Laid BY PROGRAM, IN A SANDBOX (cutbox-door.mjs). By AI agents, Wed Nov 11 2026. No macro, syntax, notation, axiom, sorry.
-/
import Derived.Test.YtaapmifdglaehaaDoorRows
import GoSem.ClaimSeven
namespace Go.Proofs.YtaapmifdglaehaaDoor
namespace Rows

/-- THE TIED CARD OF 'tollwaylaw34.BillTotals'. -/
def billTotalsCard : Claim7 := { stood := { row := billTotalsRow, standIns := [], harness := (true, "ae162116f4f6b004d7b5ba3b6b47d302f78f78270b1f2a7e2c8d585903f9b4d5"), looks := false }, kinds := [], alts := [], laidByText := true, laidKinds := [.data], laidTests := true, laidLooks := .later }
def BillTotalsCardSaid : Prop := Claim7.holds Tryd.pinned (.plain (OpenSpec.ofChange billTotalsSpec)) billTotalsCard

/-- THE SECOND FORM's CARD OF 'tollwaylaw34.BillTotals'. -/
def billTotalsUptoCard : Claim7 := { stood := { row := billTotalsUptoRow, standIns := [], harness := (true, "ae162116f4f6b004d7b5ba3b6b47d302f78f78270b1f2a7e2c8d585903f9b4d5"), looks := false }, kinds := [], alts := [], laidByText := true, laidKinds := [.data], laidTests := true, laidLooks := .later }
def BillTotalsUptoCardSaid : Prop := Claim7.holds Tryd.pinned (.plain (OpenSpec.upto billTotalsSpec)) billTotalsUptoCard
end Rows
end Go.Proofs.YtaapmifdglaehaaDoor
