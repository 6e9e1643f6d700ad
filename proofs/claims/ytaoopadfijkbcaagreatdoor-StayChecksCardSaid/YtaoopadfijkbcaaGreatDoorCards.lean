/-
  DERIVED. GIVEN WITH THE SEED: THE CARDS: each row of YtaoopadfijkbcaaGreatDoorRows.lean that lists a variable, with what it lists TIED to the program's text (the seventh form; the later family's looks); each row that meets fmt, with fmt's text TOLD by the authors' own Lean function (tested against real Go, not proved from fmt's source: count such statements apart). THE CARD IS WHAT COUNTS. Prove the row's statement (the work); the ties are given (YtaoopadfijkbcaaGreatDoorTie.lean); close each card by the builder's one call (the guide's Derived/Test/ToyasCard.lean, 'card_holds'). Laid BY PROGRAM, IN A SANDBOX (cutbox-door.mjs). By AI agents, Wed Nov 11 2026. No macro, syntax, notation, axiom, sorry.
-/
import Derived.Test.YtaoopadfijkbcaaGreatDoorRows
import GoSem.ClaimSeven
namespace Go.Proofs.YtaoopadfijkbcaaGreatDoor
namespace Rows

/-- THE TIED CARD OF 'tollwaylaw27.SessionChecks'. -/
def sessionChecksCard : Claim7 := { stood := { row := sessionChecksRow, standIns := [], harness := (true, "f01cc6027d29a0b749286b146fb1a7676a12d40ec8d4b003d71773793b21cb60"), looks := false }, kinds := [], alts := [], laidByText := true, laidKinds := [.data, .data, .data, .data, .pinned], laidTests := true, laidLooks := .later }
def SessionChecksCardSaid : Prop := Claim7.holds Tryz.pinned (.plain (OpenSpec.ofChange sessionChecksSpec)) sessionChecksCard

/-- THE TIED CARD OF 'tollwaylaw30.StayChecks'. -/
def stayChecksCard : Claim7 := { stood := { row := stayChecksRow, standIns := [], harness := (true, "f01cc6027d29a0b749286b146fb1a7676a12d40ec8d4b003d71773793b21cb60"), looks := false }, kinds := [], alts := [], laidByText := true, laidKinds := [.data, .data, .data, .data, .pinned], laidTests := true, laidLooks := .later }
def StayChecksCardSaid : Prop := Claim7.holds Tryz.pinned (.plain (OpenSpec.ofChange stayChecksSpec)) stayChecksCard

/-- THE SECOND FORM's CARD OF 'tollwaylaw27.SessionChecks'. -/
def sessionChecksUptoCard : Claim7 := { stood := { row := sessionChecksUptoRow, standIns := [], harness := (true, "f01cc6027d29a0b749286b146fb1a7676a12d40ec8d4b003d71773793b21cb60"), looks := false }, kinds := [], alts := [], laidByText := true, laidKinds := [.data, .data, .data, .data, .pinned], laidTests := true, laidLooks := .later }
def SessionChecksUptoCardSaid : Prop := Claim7.holds Tryz.pinned (.plain (OpenSpec.upto sessionChecksSpec)) sessionChecksUptoCard

/-- THE SECOND FORM's CARD OF 'tollwaylaw30.StayChecks'. -/
def stayChecksUptoCard : Claim7 := { stood := { row := stayChecksUptoRow, standIns := [], harness := (true, "f01cc6027d29a0b749286b146fb1a7676a12d40ec8d4b003d71773793b21cb60"), looks := false }, kinds := [], alts := [], laidByText := true, laidKinds := [.data, .data, .data, .data, .pinned], laidTests := true, laidLooks := .later }
def StayChecksUptoCardSaid : Prop := Claim7.holds Tryz.pinned (.plain (OpenSpec.upto stayChecksSpec)) stayChecksUptoCard
end Rows
end Go.Proofs.YtaoopadfijkbcaaGreatDoor
