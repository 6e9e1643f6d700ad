/-
  DERIVED. GIVEN WITH THE SEED: THE CARDS: each row of YtglhonnmppclpaaDoorRows.lean that lists a variable, with what it lists TIED to the program's text (the seventh form; the later family's looks); each row that meets fmt, with fmt's text TOLD by the authors' own Lean function (tested against real Go, not proved from fmt's source: count such statements apart). THE CARD IS WHAT COUNTS. Prove the row's statement (the work); the ties are given (YtglhonnmppclpaaDoorTie.lean); close each card by the builder's one call (the guide's Derived/Test/ToyasCard.lean, 'card_holds'). Laid BY PROGRAM, IN A SANDBOX (cutbox-door.mjs). By AI agents, Wed Nov 11 2026. No macro, syntax, notation, axiom, sorry.
-/
import Derived.Test.YtglhonnmppclpaaDoorRows
import GoSem.ClaimSeven
namespace Go.Proofs.YtglhonnmppclpaaDoor
namespace Rows

/-- THE TIED CARD OF 'tollwaylaw51.ReportCharges'. -/
def reportChargesCard : Claim7 := { stood := { row := reportChargesRow, standIns := [], harness := (true, "e5e001ecb25b9bcd07f3fcf3f9f62517d23d5e6549f74b486db70c0ae658ca02"), looks := false }, kinds := [], alts := [], laidByText := true, laidKinds := [.data, .data, .data, .data, .data, .data], laidTests := true, laidLooks := .later }
def ReportChargesCardSaid : Prop := Claim7.holds Tryd.pinned (.plain (OpenSpec.ofChange reportChargesSpec)) reportChargesCard

/-- THE TIED CARD OF 'tollwaylaw51.ReportDays'. -/
def reportDaysCard : Claim7 := { stood := { row := reportDaysRow, standIns := [], harness := (true, "e5e001ecb25b9bcd07f3fcf3f9f62517d23d5e6549f74b486db70c0ae658ca02"), looks := false }, kinds := [], alts := [], laidByText := true, laidKinds := [.data, .data, .data, .data, .data, .data], laidTests := true, laidLooks := .later }
def ReportDaysCardSaid : Prop := Claim7.holds Tryd.pinned (.plain (OpenSpec.ofChange reportDaysSpec)) reportDaysCard

/-- THE TIED CARD OF 'tollwaylaw51.ReportAccounts'. -/
def reportAccountsCard : Claim7 := { stood := { row := reportAccountsRow, standIns := [], harness := (true, "e5e001ecb25b9bcd07f3fcf3f9f62517d23d5e6549f74b486db70c0ae658ca02"), looks := false }, kinds := [], alts := [], laidByText := true, laidKinds := [.data, .data, .data, .data, .data, .data], laidTests := true, laidLooks := .later }
def ReportAccountsCardSaid : Prop := Claim7.holds Tryd.pinned (.plain (OpenSpec.ofChange reportAccountsSpec)) reportAccountsCard

/-- THE TIED CARD OF 'tollwaylaw51.ReportCases'. -/
def reportCasesCard : Claim7 := { stood := { row := reportCasesRow, standIns := [], harness := (true, "e5e001ecb25b9bcd07f3fcf3f9f62517d23d5e6549f74b486db70c0ae658ca02"), looks := false }, kinds := [], alts := [], laidByText := true, laidKinds := [.data, .data, .data, .data, .data, .data], laidTests := true, laidLooks := .later }
def ReportCasesCardSaid : Prop := Claim7.holds Tryd.pinned (.plain (OpenSpec.ofChange reportCasesSpec)) reportCasesCard

/-- THE TIED CARD OF 'tollwaylaw51.ReportTotals'. -/
def reportTotalsCard : Claim7 := { stood := { row := reportTotalsRow, standIns := [], harness := (true, "e5e001ecb25b9bcd07f3fcf3f9f62517d23d5e6549f74b486db70c0ae658ca02"), looks := false }, kinds := [], alts := [], laidByText := true, laidKinds := [.data, .data, .data, .data, .data, .data], laidTests := true, laidLooks := .later }
def ReportTotalsCardSaid : Prop := Claim7.holds Tryd.pinned (.plain (OpenSpec.ofChange reportTotalsSpec)) reportTotalsCard

/-- THE SECOND FORM's CARD OF 'tollwaylaw51.ReportCharges'. -/
def reportChargesUptoCard : Claim7 := { stood := { row := reportChargesUptoRow, standIns := [], harness := (true, "e5e001ecb25b9bcd07f3fcf3f9f62517d23d5e6549f74b486db70c0ae658ca02"), looks := false }, kinds := [], alts := [], laidByText := true, laidKinds := [.data, .data, .data, .data, .data, .data], laidTests := true, laidLooks := .later }
def ReportChargesUptoCardSaid : Prop := Claim7.holds Tryd.pinned (.plain (OpenSpec.upto reportChargesSpec)) reportChargesUptoCard

/-- THE SECOND FORM's CARD OF 'tollwaylaw51.ReportDays'. -/
def reportDaysUptoCard : Claim7 := { stood := { row := reportDaysUptoRow, standIns := [], harness := (true, "e5e001ecb25b9bcd07f3fcf3f9f62517d23d5e6549f74b486db70c0ae658ca02"), looks := false }, kinds := [], alts := [], laidByText := true, laidKinds := [.data, .data, .data, .data, .data, .data], laidTests := true, laidLooks := .later }
def ReportDaysUptoCardSaid : Prop := Claim7.holds Tryd.pinned (.plain (OpenSpec.upto reportDaysSpec)) reportDaysUptoCard

/-- THE SECOND FORM's CARD OF 'tollwaylaw51.ReportAccounts'. -/
def reportAccountsUptoCard : Claim7 := { stood := { row := reportAccountsUptoRow, standIns := [], harness := (true, "e5e001ecb25b9bcd07f3fcf3f9f62517d23d5e6549f74b486db70c0ae658ca02"), looks := false }, kinds := [], alts := [], laidByText := true, laidKinds := [.data, .data, .data, .data, .data, .data], laidTests := true, laidLooks := .later }
def ReportAccountsUptoCardSaid : Prop := Claim7.holds Tryd.pinned (.plain (OpenSpec.upto reportAccountsSpec)) reportAccountsUptoCard

/-- THE SECOND FORM's CARD OF 'tollwaylaw51.ReportCases'. -/
def reportCasesUptoCard : Claim7 := { stood := { row := reportCasesUptoRow, standIns := [], harness := (true, "e5e001ecb25b9bcd07f3fcf3f9f62517d23d5e6549f74b486db70c0ae658ca02"), looks := false }, kinds := [], alts := [], laidByText := true, laidKinds := [.data, .data, .data, .data, .data, .data], laidTests := true, laidLooks := .later }
def ReportCasesUptoCardSaid : Prop := Claim7.holds Tryd.pinned (.plain (OpenSpec.upto reportCasesSpec)) reportCasesUptoCard

/-- THE SECOND FORM's CARD OF 'tollwaylaw51.ReportTotals'. -/
def reportTotalsUptoCard : Claim7 := { stood := { row := reportTotalsUptoRow, standIns := [], harness := (true, "e5e001ecb25b9bcd07f3fcf3f9f62517d23d5e6549f74b486db70c0ae658ca02"), looks := false }, kinds := [], alts := [], laidByText := true, laidKinds := [.data, .data, .data, .data, .data, .data], laidTests := true, laidLooks := .later }
def ReportTotalsUptoCardSaid : Prop := Claim7.holds Tryd.pinned (.plain (OpenSpec.upto reportTotalsSpec)) reportTotalsUptoCard
end Rows
end Go.Proofs.YtglhonnmppclpaaDoor
