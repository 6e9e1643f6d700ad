/-
  DERIVED. GIVEN WITH THE SEED: THE CARDS: each row of YtgelodnkfajgjaaGreatDoorRows.lean that lists a variable, with what it lists TIED to the program's text (the seventh form; the later family's looks); each row that meets fmt, with fmt's text TOLD by the authors' own Lean function (tested against real Go, not proved from fmt's source: count such statements apart). THE CARD IS WHAT COUNTS. Prove the row's statement (the work); the ties are given (YtgelodnkfajgjaaGreatDoorTie.lean); close each card by the builder's one call (the guide's Derived/Test/ToyasCard.lean, 'card_holds'). Laid BY PROGRAM, IN A SANDBOX (cutbox-door.mjs). By AI agents, Wed Nov 11 2026. No macro, syntax, notation, axiom, sorry.
-/
import Derived.Test.YtgelodnkfajgjaaGreatDoorRows
import GoSem.ClaimSeven
namespace Go.Proofs.YtgelodnkfajgjaaGreatDoor
namespace Rows

/-- THE TIED CARD OF 'tollwaylaw17.PassageChecks'. -/
def passageChecksCard : Claim7 := { stood := { row := passageChecksRow, standIns := [], harness := (true, "43c7766e0eb809a3cf01035c74baf8f8ae2ca8e2e8536383efdbdcfb8e29ad37"), looks := false }, kinds := [], alts := [], laidByText := true, laidKinds := [.data, .data, .data, .data, .pinned], laidTests := true, laidLooks := .later }
def PassageChecksCardSaid : Prop := Claim7.holds Tryz.pinned (.plain (OpenSpec.ofChange passageChecksSpec)) passageChecksCard

/-- THE TIED CARD OF 'tollwaylaw13.DetectChecks'. -/
def detectChecksCard : Claim7 := { stood := { row := detectChecksRow, standIns := [], harness := (true, "43c7766e0eb809a3cf01035c74baf8f8ae2ca8e2e8536383efdbdcfb8e29ad37"), looks := false }, kinds := [], alts := [], laidByText := true, laidKinds := [.data, .pinned], laidTests := true, laidLooks := .later }
def DetectChecksCardSaid : Prop := Claim7.holds Tryz.pinned (.plain (OpenSpec.ofChange detectChecksSpec)) detectChecksCard

/-- THE SECOND FORM's CARD OF 'tollwaylaw17.PassageChecks'. -/
def passageChecksUptoCard : Claim7 := { stood := { row := passageChecksUptoRow, standIns := [], harness := (true, "43c7766e0eb809a3cf01035c74baf8f8ae2ca8e2e8536383efdbdcfb8e29ad37"), looks := false }, kinds := [], alts := [], laidByText := true, laidKinds := [.data, .data, .data, .data, .pinned], laidTests := true, laidLooks := .later }
def PassageChecksUptoCardSaid : Prop := Claim7.holds Tryz.pinned (.plain (OpenSpec.upto passageChecksSpec)) passageChecksUptoCard

/-- THE SECOND FORM's CARD OF 'tollwaylaw13.DetectChecks'. -/
def detectChecksUptoCard : Claim7 := { stood := { row := detectChecksUptoRow, standIns := [], harness := (true, "43c7766e0eb809a3cf01035c74baf8f8ae2ca8e2e8536383efdbdcfb8e29ad37"), looks := false }, kinds := [], alts := [], laidByText := true, laidKinds := [.data, .pinned], laidTests := true, laidLooks := .later }
def DetectChecksUptoCardSaid : Prop := Claim7.holds Tryz.pinned (.plain (OpenSpec.upto detectChecksSpec)) detectChecksUptoCard
end Rows
end Go.Proofs.YtgelodnkfajgjaaGreatDoor
