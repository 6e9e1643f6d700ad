/-
  DERIVED. GIVEN WITH THE SEED: THE CARDS: each row of YtakmjlpciicaiaaGreatDoorRows.lean that lists a variable, with what it lists TIED to the program's text (the seventh form; the later family's looks); each row that meets fmt, with fmt's text TOLD by the authors' own Lean function (tested against real Go, not proved from fmt's source: count such statements apart). THE CARD IS WHAT COUNTS. Prove the row's statement (the work); the ties are given (YtakmjlpciicaiaaGreatDoorTie.lean); close each card by the builder's one call (the guide's Derived/Test/ToyasCard.lean, 'card_holds'). Laid BY PROGRAM, IN A SANDBOX (cutbox-door.mjs). By AI agents, Wed Nov 11 2026. No macro, syntax, notation, axiom, sorry.
-/
import Derived.Test.YtakmjlpciicaiaaGreatDoorRows
import GoSem.ClaimSeven
namespace Go.Proofs.YtakmjlpciicaiaaGreatDoor
namespace Rows

/-- THE TIED CARD OF 'tollwaylaw17.PassageChecks'. -/
def passageChecksCard : Claim7 := { stood := { row := passageChecksRow, standIns := [], harness := (true, "aecdef402db0857d3deff0902d79660c7a9739e5c0215286cb3695e0890af9f4"), looks := false }, kinds := [], alts := [], laidByText := true, laidKinds := [.data, .data, .data, .data, .pinned], laidTests := true, laidLooks := .later }
def PassageChecksCardSaid : Prop := Claim7.holds Tryz.pinned (.plain (OpenSpec.ofChange passageChecksSpec)) passageChecksCard

/-- THE TIED CARD OF 'tollwaylaw17.PassageSorts'. -/
def passageSortsCard : Claim7 := { stood := { row := passageSortsRow, standIns := [], harness := (true, "aecdef402db0857d3deff0902d79660c7a9739e5c0215286cb3695e0890af9f4"), looks := false }, kinds := [], alts := [], laidByText := true, laidKinds := [.data, .data, .data, .data, .pinned], laidTests := true, laidLooks := .later }
def PassageSortsCardSaid : Prop := Claim7.holds Tryz.pinned (.plain (OpenSpec.ofChange passageSortsSpec)) passageSortsCard

/-- THE TIED CARD OF 'tollwaylaw17.PassageDiffs'. -/
def passageDiffsCard : Claim7 := { stood := { row := passageDiffsRow, standIns := [], harness := (true, "aecdef402db0857d3deff0902d79660c7a9739e5c0215286cb3695e0890af9f4"), looks := false }, kinds := [], alts := [], laidByText := true, laidKinds := [.data, .data, .data, .data, .pinned], laidTests := true, laidLooks := .later }
def PassageDiffsCardSaid : Prop := Claim7.holds Tryz.pinned (.plain (OpenSpec.ofChange passageDiffsSpec)) passageDiffsCard

/-- THE TIED CARD OF 'tollwaylaw17.PassageVehicles'. -/
def passageVehiclesCard : Claim7 := { stood := { row := passageVehiclesRow, standIns := [], harness := (true, "aecdef402db0857d3deff0902d79660c7a9739e5c0215286cb3695e0890af9f4"), looks := false }, kinds := [], alts := [], laidByText := true, laidKinds := [.data, .data, .data, .data, .pinned], laidTests := true, laidLooks := .later }
def PassageVehiclesCardSaid : Prop := Claim7.holds Tryz.pinned (.plain (OpenSpec.ofChange passageVehiclesSpec)) passageVehiclesCard

/-- THE TIED CARD OF 'tollwaylaw17.PassageSorted'. -/
def passageSortedCard : Claim7 := { stood := { row := passageSortedRow, standIns := [], harness := (true, "aecdef402db0857d3deff0902d79660c7a9739e5c0215286cb3695e0890af9f4"), looks := false }, kinds := [], alts := [], laidByText := true, laidKinds := [.data, .data, .data, .data, .pinned], laidTests := true, laidLooks := .later }
def PassageSortedCardSaid : Prop := Claim7.holds Tryz.pinned (.plain (OpenSpec.ofChange passageSortedSpec)) passageSortedCard

/-- THE TIED CARD OF 'tollwaylaw17.PassageOnce'. -/
def passageOnceCard : Claim7 := { stood := { row := passageOnceRow, standIns := [], harness := (true, "aecdef402db0857d3deff0902d79660c7a9739e5c0215286cb3695e0890af9f4"), looks := false }, kinds := [], alts := [], laidByText := true, laidKinds := [.data, .data, .data, .data, .pinned], laidTests := true, laidLooks := .later }
def PassageOnceCardSaid : Prop := Claim7.holds Tryz.pinned (.plain (OpenSpec.ofChange passageOnceSpec)) passageOnceCard

/-- THE TIED CARD OF 'tollwaylaw17.PassageTags'. -/
def passageTagsCard : Claim7 := { stood := { row := passageTagsRow, standIns := [], harness := (true, "aecdef402db0857d3deff0902d79660c7a9739e5c0215286cb3695e0890af9f4"), looks := false }, kinds := [], alts := [], laidByText := true, laidKinds := [.data, .data, .data, .data, .pinned], laidTests := true, laidLooks := .later }
def PassageTagsCardSaid : Prop := Claim7.holds Tryz.pinned (.plain (OpenSpec.ofChange passageTagsSpec)) passageTagsCard

/-- THE TIED CARD OF 'tollwaylaw17.PassageChanges'. -/
def passageChangesCard : Claim7 := { stood := { row := passageChangesRow, standIns := [], harness := (true, "aecdef402db0857d3deff0902d79660c7a9739e5c0215286cb3695e0890af9f4"), looks := false }, kinds := [], alts := [], laidByText := true, laidKinds := [.data, .data, .data, .data, .pinned], laidTests := true, laidLooks := .later }
def PassageChangesCardSaid : Prop := Claim7.holds Tryz.pinned (.plain (OpenSpec.ofChange passageChangesSpec)) passageChangesCard

/-- THE SECOND FORM's CARD OF 'tollwaylaw17.PassageChecks'. -/
def passageChecksUptoCard : Claim7 := { stood := { row := passageChecksUptoRow, standIns := [], harness := (true, "aecdef402db0857d3deff0902d79660c7a9739e5c0215286cb3695e0890af9f4"), looks := false }, kinds := [], alts := [], laidByText := true, laidKinds := [.data, .data, .data, .data, .pinned], laidTests := true, laidLooks := .later }
def PassageChecksUptoCardSaid : Prop := Claim7.holds Tryz.pinned (.plain (OpenSpec.upto passageChecksSpec)) passageChecksUptoCard

/-- THE SECOND FORM's CARD OF 'tollwaylaw17.PassageSorts'. -/
def passageSortsUptoCard : Claim7 := { stood := { row := passageSortsUptoRow, standIns := [], harness := (true, "aecdef402db0857d3deff0902d79660c7a9739e5c0215286cb3695e0890af9f4"), looks := false }, kinds := [], alts := [], laidByText := true, laidKinds := [.data, .data, .data, .data, .pinned], laidTests := true, laidLooks := .later }
def PassageSortsUptoCardSaid : Prop := Claim7.holds Tryz.pinned (.plain (OpenSpec.upto passageSortsSpec)) passageSortsUptoCard

/-- THE SECOND FORM's CARD OF 'tollwaylaw17.PassageDiffs'. -/
def passageDiffsUptoCard : Claim7 := { stood := { row := passageDiffsUptoRow, standIns := [], harness := (true, "aecdef402db0857d3deff0902d79660c7a9739e5c0215286cb3695e0890af9f4"), looks := false }, kinds := [], alts := [], laidByText := true, laidKinds := [.data, .data, .data, .data, .pinned], laidTests := true, laidLooks := .later }
def PassageDiffsUptoCardSaid : Prop := Claim7.holds Tryz.pinned (.plain (OpenSpec.upto passageDiffsSpec)) passageDiffsUptoCard

/-- THE SECOND FORM's CARD OF 'tollwaylaw17.PassageVehicles'. -/
def passageVehiclesUptoCard : Claim7 := { stood := { row := passageVehiclesUptoRow, standIns := [], harness := (true, "aecdef402db0857d3deff0902d79660c7a9739e5c0215286cb3695e0890af9f4"), looks := false }, kinds := [], alts := [], laidByText := true, laidKinds := [.data, .data, .data, .data, .pinned], laidTests := true, laidLooks := .later }
def PassageVehiclesUptoCardSaid : Prop := Claim7.holds Tryz.pinned (.plain (OpenSpec.upto passageVehiclesSpec)) passageVehiclesUptoCard

/-- THE SECOND FORM's CARD OF 'tollwaylaw17.PassageSorted'. -/
def passageSortedUptoCard : Claim7 := { stood := { row := passageSortedUptoRow, standIns := [], harness := (true, "aecdef402db0857d3deff0902d79660c7a9739e5c0215286cb3695e0890af9f4"), looks := false }, kinds := [], alts := [], laidByText := true, laidKinds := [.data, .data, .data, .data, .pinned], laidTests := true, laidLooks := .later }
def PassageSortedUptoCardSaid : Prop := Claim7.holds Tryz.pinned (.plain (OpenSpec.upto passageSortedSpec)) passageSortedUptoCard

/-- THE SECOND FORM's CARD OF 'tollwaylaw17.PassageOnce'. -/
def passageOnceUptoCard : Claim7 := { stood := { row := passageOnceUptoRow, standIns := [], harness := (true, "aecdef402db0857d3deff0902d79660c7a9739e5c0215286cb3695e0890af9f4"), looks := false }, kinds := [], alts := [], laidByText := true, laidKinds := [.data, .data, .data, .data, .pinned], laidTests := true, laidLooks := .later }
def PassageOnceUptoCardSaid : Prop := Claim7.holds Tryz.pinned (.plain (OpenSpec.upto passageOnceSpec)) passageOnceUptoCard

/-- THE SECOND FORM's CARD OF 'tollwaylaw17.PassageTags'. -/
def passageTagsUptoCard : Claim7 := { stood := { row := passageTagsUptoRow, standIns := [], harness := (true, "aecdef402db0857d3deff0902d79660c7a9739e5c0215286cb3695e0890af9f4"), looks := false }, kinds := [], alts := [], laidByText := true, laidKinds := [.data, .data, .data, .data, .pinned], laidTests := true, laidLooks := .later }
def PassageTagsUptoCardSaid : Prop := Claim7.holds Tryz.pinned (.plain (OpenSpec.upto passageTagsSpec)) passageTagsUptoCard

/-- THE SECOND FORM's CARD OF 'tollwaylaw17.PassageChanges'. -/
def passageChangesUptoCard : Claim7 := { stood := { row := passageChangesUptoRow, standIns := [], harness := (true, "aecdef402db0857d3deff0902d79660c7a9739e5c0215286cb3695e0890af9f4"), looks := false }, kinds := [], alts := [], laidByText := true, laidKinds := [.data, .data, .data, .data, .pinned], laidTests := true, laidLooks := .later }
def PassageChangesUptoCardSaid : Prop := Claim7.holds Tryz.pinned (.plain (OpenSpec.upto passageChangesSpec)) passageChangesUptoCard
end Rows
end Go.Proofs.YtakmjlpciicaiaaGreatDoor
