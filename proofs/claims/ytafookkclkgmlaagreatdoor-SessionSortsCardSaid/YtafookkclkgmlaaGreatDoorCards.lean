/-
  DERIVED. GIVEN WITH THE SEED: THE CARDS: each row of YtafookkclkgmlaaGreatDoorRows.lean that lists a variable, with what it lists TIED to the program's text (the seventh form; the later family's looks); each row that meets fmt, with fmt's text TOLD by the authors' own Lean function (tested against real Go, not proved from fmt's source: count such statements apart). THE CARD IS WHAT COUNTS. Prove the row's statement (the work); the ties are given (YtafookkclkgmlaaGreatDoorTie.lean); close each card by the builder's one call (the guide's Derived/Test/ToyasCard.lean, 'card_holds'). Laid BY PROGRAM, IN A SANDBOX (cutbox-door.mjs). By AI agents, Wed Nov 11 2026. No macro, syntax, notation, axiom, sorry.
-/
import Derived.Test.YtafookkclkgmlaaGreatDoorRows
import GoSem.ClaimSeven
namespace Go.Proofs.YtafookkclkgmlaaGreatDoor
namespace Rows

/-- THE TIED CARD OF 'tollwaylaw27.SessionChecks'. -/
def sessionChecksCard : Claim7 := { stood := { row := sessionChecksRow, standIns := [], harness := (true, "c6a1150affd89306172d8a055f1f6c3748fd88fd32b330edc7077924fbbdd332"), looks := false }, kinds := [], alts := [], laidByText := true, laidKinds := [.data, .data, .data, .data, .pinned], laidTests := true, laidLooks := .later }
def SessionChecksCardSaid : Prop := Claim7.holds Tryz.pinned (.plain (OpenSpec.ofChange sessionChecksSpec)) sessionChecksCard

/-- THE TIED CARD OF 'tollwaylaw27.SessionSorts'. -/
def sessionSortsCard : Claim7 := { stood := { row := sessionSortsRow, standIns := [], harness := (true, "c6a1150affd89306172d8a055f1f6c3748fd88fd32b330edc7077924fbbdd332"), looks := false }, kinds := [], alts := [], laidByText := true, laidKinds := [.data, .data, .data, .data, .pinned], laidTests := true, laidLooks := .later }
def SessionSortsCardSaid : Prop := Claim7.holds Tryz.pinned (.plain (OpenSpec.ofChange sessionSortsSpec)) sessionSortsCard

/-- THE TIED CARD OF 'tollwaylaw27.SessionOver'. -/
def sessionOverCard : Claim7 := { stood := { row := sessionOverRow, standIns := [], harness := (true, "c6a1150affd89306172d8a055f1f6c3748fd88fd32b330edc7077924fbbdd332"), looks := false }, kinds := [], alts := [], laidByText := true, laidKinds := [.data, .data, .data, .data, .pinned], laidTests := true, laidLooks := .later }
def SessionOverCardSaid : Prop := Claim7.holds Tryz.pinned (.plain (OpenSpec.ofChange sessionOverSpec)) sessionOverCard

/-- THE TIED CARD OF 'tollwaylaw27.SessionStarts'. -/
def sessionStartsCard : Claim7 := { stood := { row := sessionStartsRow, standIns := [], harness := (true, "c6a1150affd89306172d8a055f1f6c3748fd88fd32b330edc7077924fbbdd332"), looks := false }, kinds := [], alts := [], laidByText := true, laidKinds := [.data, .data, .data, .data, .pinned], laidTests := true, laidLooks := .later }
def SessionStartsCardSaid : Prop := Claim7.holds Tryz.pinned (.plain (OpenSpec.ofChange sessionStartsSpec)) sessionStartsCard

/-- THE SECOND FORM's CARD OF 'tollwaylaw27.SessionChecks'. -/
def sessionChecksUptoCard : Claim7 := { stood := { row := sessionChecksUptoRow, standIns := [], harness := (true, "c6a1150affd89306172d8a055f1f6c3748fd88fd32b330edc7077924fbbdd332"), looks := false }, kinds := [], alts := [], laidByText := true, laidKinds := [.data, .data, .data, .data, .pinned], laidTests := true, laidLooks := .later }
def SessionChecksUptoCardSaid : Prop := Claim7.holds Tryz.pinned (.plain (OpenSpec.upto sessionChecksSpec)) sessionChecksUptoCard

/-- THE SECOND FORM's CARD OF 'tollwaylaw27.SessionSorts'. -/
def sessionSortsUptoCard : Claim7 := { stood := { row := sessionSortsUptoRow, standIns := [], harness := (true, "c6a1150affd89306172d8a055f1f6c3748fd88fd32b330edc7077924fbbdd332"), looks := false }, kinds := [], alts := [], laidByText := true, laidKinds := [.data, .data, .data, .data, .pinned], laidTests := true, laidLooks := .later }
def SessionSortsUptoCardSaid : Prop := Claim7.holds Tryz.pinned (.plain (OpenSpec.upto sessionSortsSpec)) sessionSortsUptoCard

/-- THE SECOND FORM's CARD OF 'tollwaylaw27.SessionOver'. -/
def sessionOverUptoCard : Claim7 := { stood := { row := sessionOverUptoRow, standIns := [], harness := (true, "c6a1150affd89306172d8a055f1f6c3748fd88fd32b330edc7077924fbbdd332"), looks := false }, kinds := [], alts := [], laidByText := true, laidKinds := [.data, .data, .data, .data, .pinned], laidTests := true, laidLooks := .later }
def SessionOverUptoCardSaid : Prop := Claim7.holds Tryz.pinned (.plain (OpenSpec.upto sessionOverSpec)) sessionOverUptoCard

/-- THE SECOND FORM's CARD OF 'tollwaylaw27.SessionStarts'. -/
def sessionStartsUptoCard : Claim7 := { stood := { row := sessionStartsUptoRow, standIns := [], harness := (true, "c6a1150affd89306172d8a055f1f6c3748fd88fd32b330edc7077924fbbdd332"), looks := false }, kinds := [], alts := [], laidByText := true, laidKinds := [.data, .data, .data, .data, .pinned], laidTests := true, laidLooks := .later }
def SessionStartsUptoCardSaid : Prop := Claim7.holds Tryz.pinned (.plain (OpenSpec.upto sessionStartsSpec)) sessionStartsUptoCard
end Rows
end Go.Proofs.YtafookkclkgmlaaGreatDoor
