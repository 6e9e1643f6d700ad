/-
  DERIVED. GIVEN WITH THE SEED: THE CARDS: each row of YtadfkfgachlgeaaDoorRows.lean that lists a variable, with what it lists TIED to the program's text (the seventh form; the later family's looks); each row that meets fmt, with fmt's text TOLD by the authors' own Lean function (tested against real Go, not proved from fmt's source: count such statements apart). THE CARD IS WHAT COUNTS. Prove the row's statement (the work); the ties are given (YtadfkfgachlgeaaDoorTie.lean); close each card by the builder's one call (the guide's Derived/Test/ToyasCard.lean, 'card_holds'). Laid BY PROGRAM, IN A SANDBOX (cutbox-door.mjs). By AI agents, Wed Nov 11 2026. No macro, syntax, notation, axiom, sorry.
-/
import Derived.Test.YtadfkfgachlgeaaDoorRows
import GoSem.ClaimSeven
namespace Go.Proofs.YtadfkfgachlgeaaDoor
namespace Rows

/-- THE TIED CARD OF 'tollwaylaw39.AppealFiles'. -/
def appealFilesCard : Claim7 := { stood := { row := appealFilesRow, standIns := [], harness := (true, "ed04fa7fbe014d0c6a5af0ca139f741e879a7fccf40d3916e9863f79be16d254"), looks := false }, kinds := [], alts := [], laidByText := true, laidKinds := [.data, .data, .pinned], laidTests := true, laidLooks := .later }
def AppealFilesCardSaid : Prop := Claim7.holds Tryd.pinned (.plain (OpenSpec.ofChange appealFilesSpec)) appealFilesCard

/-- THE TIED CARD OF 'tollwaylaw39.AppealDecides'. -/
def appealDecidesCard : Claim7 := { stood := { row := appealDecidesRow, standIns := [], harness := (true, "ed04fa7fbe014d0c6a5af0ca139f741e879a7fccf40d3916e9863f79be16d254"), looks := false }, kinds := [], alts := [], laidByText := true, laidKinds := [.data, .data, .pinned], laidTests := true, laidLooks := .later }
def AppealDecidesCardSaid : Prop := Claim7.holds Tryd.pinned (.plain (OpenSpec.ofChange appealDecidesSpec)) appealDecidesCard

/-- THE TIED CARD OF 'tollwaylaw39.AppealAsks'. -/
def appealAsksCard : Claim7 := { stood := { row := appealAsksRow, standIns := [], harness := (true, "ed04fa7fbe014d0c6a5af0ca139f741e879a7fccf40d3916e9863f79be16d254"), looks := false }, kinds := [], alts := [], laidByText := true, laidKinds := [.data, .data, .pinned], laidTests := true, laidLooks := .later }
def AppealAsksCardSaid : Prop := Claim7.holds Tryd.pinned (.plain (OpenSpec.ofChange appealAsksSpec)) appealAsksCard

/-- THE TIED CARD OF 'tollwaylaw39.AppealStops'. -/
def appealStopsCard : Claim7 := { stood := { row := appealStopsRow, standIns := [], harness := (true, "ed04fa7fbe014d0c6a5af0ca139f741e879a7fccf40d3916e9863f79be16d254"), looks := false }, kinds := [], alts := [], laidByText := true, laidKinds := [.data, .data, .pinned], laidTests := true, laidLooks := .later }
def AppealStopsCardSaid : Prop := Claim7.holds Tryd.pinned (.plain (OpenSpec.ofChange appealStopsSpec)) appealStopsCard

/-- THE TIED CARD OF 'tollwaylaw39.AppealOnce'. -/
def appealOnceCard : Claim7 := { stood := { row := appealOnceRow, standIns := [], harness := (true, "ed04fa7fbe014d0c6a5af0ca139f741e879a7fccf40d3916e9863f79be16d254"), looks := false }, kinds := [], alts := [], laidByText := true, laidKinds := [.data, .data, .pinned], laidTests := true, laidLooks := .later }
def AppealOnceCardSaid : Prop := Claim7.holds Tryd.pinned (.plain (OpenSpec.ofChange appealOnceSpec)) appealOnceCard

/-- THE TIED CARD OF 'tollwaylaw39.AppealDelays'. -/
def appealDelaysCard : Claim7 := { stood := { row := appealDelaysRow, standIns := [], harness := (true, "ed04fa7fbe014d0c6a5af0ca139f741e879a7fccf40d3916e9863f79be16d254"), looks := false }, kinds := [], alts := [], laidByText := true, laidKinds := [.data, .data, .pinned], laidTests := true, laidLooks := .later }
def AppealDelaysCardSaid : Prop := Claim7.holds Tryd.pinned (.plain (OpenSpec.ofChange appealDelaysSpec)) appealDelaysCard

/-- THE SECOND FORM's CARD OF 'tollwaylaw39.AppealFiles'. -/
def appealFilesUptoCard : Claim7 := { stood := { row := appealFilesUptoRow, standIns := [], harness := (true, "ed04fa7fbe014d0c6a5af0ca139f741e879a7fccf40d3916e9863f79be16d254"), looks := false }, kinds := [], alts := [], laidByText := true, laidKinds := [.data, .data, .pinned], laidTests := true, laidLooks := .later }
def AppealFilesUptoCardSaid : Prop := Claim7.holds Tryd.pinned (.plain (OpenSpec.upto appealFilesSpec)) appealFilesUptoCard

/-- THE SECOND FORM's CARD OF 'tollwaylaw39.AppealDecides'. -/
def appealDecidesUptoCard : Claim7 := { stood := { row := appealDecidesUptoRow, standIns := [], harness := (true, "ed04fa7fbe014d0c6a5af0ca139f741e879a7fccf40d3916e9863f79be16d254"), looks := false }, kinds := [], alts := [], laidByText := true, laidKinds := [.data, .data, .pinned], laidTests := true, laidLooks := .later }
def AppealDecidesUptoCardSaid : Prop := Claim7.holds Tryd.pinned (.plain (OpenSpec.upto appealDecidesSpec)) appealDecidesUptoCard

/-- THE SECOND FORM's CARD OF 'tollwaylaw39.AppealAsks'. -/
def appealAsksUptoCard : Claim7 := { stood := { row := appealAsksUptoRow, standIns := [], harness := (true, "ed04fa7fbe014d0c6a5af0ca139f741e879a7fccf40d3916e9863f79be16d254"), looks := false }, kinds := [], alts := [], laidByText := true, laidKinds := [.data, .data, .pinned], laidTests := true, laidLooks := .later }
def AppealAsksUptoCardSaid : Prop := Claim7.holds Tryd.pinned (.plain (OpenSpec.upto appealAsksSpec)) appealAsksUptoCard

/-- THE SECOND FORM's CARD OF 'tollwaylaw39.AppealStops'. -/
def appealStopsUptoCard : Claim7 := { stood := { row := appealStopsUptoRow, standIns := [], harness := (true, "ed04fa7fbe014d0c6a5af0ca139f741e879a7fccf40d3916e9863f79be16d254"), looks := false }, kinds := [], alts := [], laidByText := true, laidKinds := [.data, .data, .pinned], laidTests := true, laidLooks := .later }
def AppealStopsUptoCardSaid : Prop := Claim7.holds Tryd.pinned (.plain (OpenSpec.upto appealStopsSpec)) appealStopsUptoCard

/-- THE SECOND FORM's CARD OF 'tollwaylaw39.AppealOnce'. -/
def appealOnceUptoCard : Claim7 := { stood := { row := appealOnceUptoRow, standIns := [], harness := (true, "ed04fa7fbe014d0c6a5af0ca139f741e879a7fccf40d3916e9863f79be16d254"), looks := false }, kinds := [], alts := [], laidByText := true, laidKinds := [.data, .data, .pinned], laidTests := true, laidLooks := .later }
def AppealOnceUptoCardSaid : Prop := Claim7.holds Tryd.pinned (.plain (OpenSpec.upto appealOnceSpec)) appealOnceUptoCard

/-- THE SECOND FORM's CARD OF 'tollwaylaw39.AppealDelays'. -/
def appealDelaysUptoCard : Claim7 := { stood := { row := appealDelaysUptoRow, standIns := [], harness := (true, "ed04fa7fbe014d0c6a5af0ca139f741e879a7fccf40d3916e9863f79be16d254"), looks := false }, kinds := [], alts := [], laidByText := true, laidKinds := [.data, .data, .pinned], laidTests := true, laidLooks := .later }
def AppealDelaysUptoCardSaid : Prop := Claim7.holds Tryd.pinned (.plain (OpenSpec.upto appealDelaysSpec)) appealDelaysUptoCard
end Rows
end Go.Proofs.YtadfkfgachlgeaaDoor
