/-
  DERIVED. GIVEN WITH THE SEED: THE CARDS: each row of YtgfbgkoifcacdaaDoorRows.lean that lists a variable, with what it lists TIED to the program's text (the seventh form; the later family's looks); each row that meets fmt, with fmt's text TOLD by the authors' own Lean function (tested against real Go, not proved from fmt's source: count such statements apart). THE CARD IS WHAT COUNTS. Prove the row's statement (the work); the ties are given (YtgfbgkoifcacdaaDoorTie.lean); close each card by the builder's one call (the guide's Derived/Test/ToyasCard.lean, 'card_holds'). Laid BY PROGRAM, IN A SANDBOX (cutbox-door.mjs). By AI agents, Wed Nov 11 2026. No macro, syntax, notation, axiom, sorry.
-/
import Derived.Test.YtgfbgkoifcacdaaDoorRows
import GoSem.ClaimSeven
namespace Go.Proofs.YtgfbgkoifcacdaaDoor
namespace Rows

/-- THE TIED CARD OF 'tollwaylaw52.TraceDetections'. -/
def traceDetectionsCard : Claim7 := { stood := { row := traceDetectionsRow, standIns := [], harness := (true, "05be8964002a9abb33c9117da199e1b5214f28d28879d36943d94285183ae3e1"), looks := false }, kinds := [], alts := [], laidByText := true, laidKinds := [.data, .data, .data, .data], laidTests := true, laidLooks := .later }
def TraceDetectionsCardSaid : Prop := Claim7.holds Tryd.pinned (.plain (OpenSpec.ofChange traceDetectionsSpec)) traceDetectionsCard

/-- THE TIED CARD OF 'tollwaylaw52.TracePassages'. -/
def tracePassagesCard : Claim7 := { stood := { row := tracePassagesRow, standIns := [], harness := (true, "05be8964002a9abb33c9117da199e1b5214f28d28879d36943d94285183ae3e1"), looks := false }, kinds := [], alts := [], laidByText := true, laidKinds := [.data, .data, .data, .data], laidTests := true, laidLooks := .later }
def TracePassagesCardSaid : Prop := Claim7.holds Tryd.pinned (.plain (OpenSpec.ofChange tracePassagesSpec)) tracePassagesCard

/-- THE TIED CARD OF 'tollwaylaw52.TraceCharges'. -/
def traceChargesCard : Claim7 := { stood := { row := traceChargesRow, standIns := [], harness := (true, "05be8964002a9abb33c9117da199e1b5214f28d28879d36943d94285183ae3e1"), looks := false }, kinds := [], alts := [], laidByText := true, laidKinds := [.data, .data, .data, .data], laidTests := true, laidLooks := .later }
def TraceChargesCardSaid : Prop := Claim7.holds Tryd.pinned (.plain (OpenSpec.ofChange traceChargesSpec)) traceChargesCard

/-- THE TIED CARD OF 'tollwaylaw52.TracePrints'. -/
def tracePrintsCard : Claim7 := { stood := { row := tracePrintsRow, standIns := [], harness := (true, "05be8964002a9abb33c9117da199e1b5214f28d28879d36943d94285183ae3e1"), looks := false }, kinds := [], alts := [], laidByText := true, laidKinds := [.data, .data, .data, .data], laidTests := true, laidLooks := .later }
def TracePrintsCardSaid : Prop := Claim7.holds Tryd.pinned (.plain (OpenSpec.ofChange tracePrintsSpec)) tracePrintsCard

/-- THE SECOND FORM's CARD OF 'tollwaylaw52.TraceDetections'. -/
def traceDetectionsUptoCard : Claim7 := { stood := { row := traceDetectionsUptoRow, standIns := [], harness := (true, "05be8964002a9abb33c9117da199e1b5214f28d28879d36943d94285183ae3e1"), looks := false }, kinds := [], alts := [], laidByText := true, laidKinds := [.data, .data, .data, .data], laidTests := true, laidLooks := .later }
def TraceDetectionsUptoCardSaid : Prop := Claim7.holds Tryd.pinned (.plain (OpenSpec.upto traceDetectionsSpec)) traceDetectionsUptoCard

/-- THE SECOND FORM's CARD OF 'tollwaylaw52.TracePassages'. -/
def tracePassagesUptoCard : Claim7 := { stood := { row := tracePassagesUptoRow, standIns := [], harness := (true, "05be8964002a9abb33c9117da199e1b5214f28d28879d36943d94285183ae3e1"), looks := false }, kinds := [], alts := [], laidByText := true, laidKinds := [.data, .data, .data, .data], laidTests := true, laidLooks := .later }
def TracePassagesUptoCardSaid : Prop := Claim7.holds Tryd.pinned (.plain (OpenSpec.upto tracePassagesSpec)) tracePassagesUptoCard

/-- THE SECOND FORM's CARD OF 'tollwaylaw52.TraceCharges'. -/
def traceChargesUptoCard : Claim7 := { stood := { row := traceChargesUptoRow, standIns := [], harness := (true, "05be8964002a9abb33c9117da199e1b5214f28d28879d36943d94285183ae3e1"), looks := false }, kinds := [], alts := [], laidByText := true, laidKinds := [.data, .data, .data, .data], laidTests := true, laidLooks := .later }
def TraceChargesUptoCardSaid : Prop := Claim7.holds Tryd.pinned (.plain (OpenSpec.upto traceChargesSpec)) traceChargesUptoCard

/-- THE SECOND FORM's CARD OF 'tollwaylaw52.TracePrints'. -/
def tracePrintsUptoCard : Claim7 := { stood := { row := tracePrintsUptoRow, standIns := [], harness := (true, "05be8964002a9abb33c9117da199e1b5214f28d28879d36943d94285183ae3e1"), looks := false }, kinds := [], alts := [], laidByText := true, laidKinds := [.data, .data, .data, .data], laidTests := true, laidLooks := .later }
def TracePrintsUptoCardSaid : Prop := Claim7.holds Tryd.pinned (.plain (OpenSpec.upto tracePrintsSpec)) tracePrintsUptoCard
end Rows
end Go.Proofs.YtgfbgkoifcacdaaDoor
