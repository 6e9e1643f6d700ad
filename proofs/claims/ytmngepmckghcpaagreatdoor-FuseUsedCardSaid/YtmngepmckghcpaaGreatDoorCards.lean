/-
  DERIVED. GIVEN WITH THE SEED: THE CARDS: each row of YtmngepmckghcpaaGreatDoorRows.lean that lists a variable, with what it lists TIED to the program's text (the seventh form; the later family's looks); each row that meets fmt, with fmt's text TOLD by the authors' own Lean function (tested against real Go, not proved from fmt's source: count such statements apart). THE CARD IS WHAT COUNTS. Prove the row's statement (the work); the ties are given (YtmngepmckghcpaaGreatDoorTie.lean); close each card by the builder's one call (the guide's Derived/Test/ToyasCard.lean, 'card_holds'). Laid BY PROGRAM, IN A SANDBOX (cutbox-door.mjs). By AI agents, Wed Nov 11 2026. No macro, syntax, notation, axiom, sorry.
-/
import Derived.Test.YtmngepmckghcpaaGreatDoorRows
import GoSem.ClaimSeven
namespace Go.Proofs.YtmngepmckghcpaaGreatDoor
namespace Rows

/-- THE TIED CARD OF 'tollwaylaw16.FuseUsed'. -/
def fuseUsedCard : Claim7 := { stood := { row := fuseUsedRow, standIns := [], harness := (true, "2863c3cb3ac0201cef5bfbf5ce01d32d2990504b1320fe2f3d6f42e6d132c08d"), looks := false }, kinds := [], alts := [], laidByText := true, laidKinds := [.data, .data, .data], laidTests := true, laidLooks := .later }
def FuseUsedCardSaid : Prop := Claim7.holds Tryz.pinned (.plain (OpenSpec.ofChange fuseUsedSpec)) fuseUsedCard

/-- THE SECOND FORM's CARD OF 'tollwaylaw16.FuseUsed'. -/
def fuseUsedUptoCard : Claim7 := { stood := { row := fuseUsedUptoRow, standIns := [], harness := (true, "2863c3cb3ac0201cef5bfbf5ce01d32d2990504b1320fe2f3d6f42e6d132c08d"), looks := false }, kinds := [], alts := [], laidByText := true, laidKinds := [.data, .data, .data], laidTests := true, laidLooks := .later }
def FuseUsedUptoCardSaid : Prop := Claim7.holds Tryz.pinned (.plain (OpenSpec.upto fuseUsedSpec)) fuseUsedUptoCard
end Rows
end Go.Proofs.YtmngepmckghcpaaGreatDoor
