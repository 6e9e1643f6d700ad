/-
  DERIVED. GIVEN WITH THE SEED: THE CARDS: each row of YtjgfdheodnmddaaDoorRows.lean that lists a variable, with what it lists TIED to the program's text (the seventh form; the later family's looks); each row that meets fmt, with fmt's text TOLD by the authors' own Lean function (tested against real Go, not proved from fmt's source: count such statements apart). THE CARD IS WHAT COUNTS. Prove the row's statement (the work); the ties are given (YtjgfdheodnmddaaDoorTie.lean); close each card by the builder's one call (the guide's Derived/Test/ToyasCard.lean, 'card_holds'). Laid BY PROGRAM, IN A SANDBOX (cutbox-door.mjs). By AI agents, Wed Nov 11 2026. No macro, syntax, notation, axiom, sorry.
-/
import Derived.Test.YtjgfdheodnmddaaDoorRows
import GoSem.ClaimSeven
namespace Go.Proofs.YtjgfdheodnmddaaDoor
namespace Rows

/-- THE TIED CARD OF 'tollwaylaw34.BillMonths'. -/
def billMonthsCard : Claim7 := { stood := { row := billMonthsRow, standIns := [], harness := (true, "ec6e59782f089323b8faa51e11926c0434c6eea05da091783f1527683b475f46"), looks := false }, kinds := [], alts := [], laidByText := true, laidKinds := [.data], laidTests := true, laidLooks := .later }
def BillMonthsCardSaid : Prop := Claim7.holds Tryd.pinned (.plain (OpenSpec.ofChange billMonthsSpec)) billMonthsCard

/-- THE TIED CARD OF 'tollwaylaw34.BillEarlier'. -/
def billEarlierCard : Claim7 := { stood := { row := billEarlierRow, standIns := [], harness := (true, "ec6e59782f089323b8faa51e11926c0434c6eea05da091783f1527683b475f46"), looks := false }, kinds := [], alts := [], laidByText := true, laidKinds := [.data], laidTests := true, laidLooks := .later }
def BillEarlierCardSaid : Prop := Claim7.holds Tryd.pinned (.plain (OpenSpec.ofChange billEarlierSpec)) billEarlierCard

/-- THE TIED CARD OF 'tollwaylaw34.BillOnce'. -/
def billOnceCard : Claim7 := { stood := { row := billOnceRow, standIns := [], harness := (true, "ec6e59782f089323b8faa51e11926c0434c6eea05da091783f1527683b475f46"), looks := false }, kinds := [], alts := [], laidByText := true, laidKinds := [.data], laidTests := true, laidLooks := .later }
def BillOnceCardSaid : Prop := Claim7.holds Tryd.pinned (.plain (OpenSpec.ofChange billOnceSpec)) billOnceCard

/-- THE TIED CARD OF 'tollwaylaw34.BillSums'. -/
def billSumsCard : Claim7 := { stood := { row := billSumsRow, standIns := [], harness := (true, "ec6e59782f089323b8faa51e11926c0434c6eea05da091783f1527683b475f46"), looks := false }, kinds := [], alts := [], laidByText := true, laidKinds := [.data], laidTests := true, laidLooks := .later }
def BillSumsCardSaid : Prop := Claim7.holds Tryd.pinned (.plain (OpenSpec.ofChange billSumsSpec)) billSumsCard

/-- THE TIED CARD OF 'tollwaylaw34.BillDays'. -/
def billDaysCard : Claim7 := { stood := { row := billDaysRow, standIns := [], harness := (true, "ec6e59782f089323b8faa51e11926c0434c6eea05da091783f1527683b475f46"), looks := false }, kinds := [], alts := [], laidByText := true, laidKinds := [.data], laidTests := true, laidLooks := .later }
def BillDaysCardSaid : Prop := Claim7.holds Tryd.pinned (.plain (OpenSpec.ofChange billDaysSpec)) billDaysCard

/-- THE SECOND FORM's CARD OF 'tollwaylaw34.BillMonths'. -/
def billMonthsUptoCard : Claim7 := { stood := { row := billMonthsUptoRow, standIns := [], harness := (true, "ec6e59782f089323b8faa51e11926c0434c6eea05da091783f1527683b475f46"), looks := false }, kinds := [], alts := [], laidByText := true, laidKinds := [.data], laidTests := true, laidLooks := .later }
def BillMonthsUptoCardSaid : Prop := Claim7.holds Tryd.pinned (.plain (OpenSpec.upto billMonthsSpec)) billMonthsUptoCard

/-- THE SECOND FORM's CARD OF 'tollwaylaw34.BillEarlier'. -/
def billEarlierUptoCard : Claim7 := { stood := { row := billEarlierUptoRow, standIns := [], harness := (true, "ec6e59782f089323b8faa51e11926c0434c6eea05da091783f1527683b475f46"), looks := false }, kinds := [], alts := [], laidByText := true, laidKinds := [.data], laidTests := true, laidLooks := .later }
def BillEarlierUptoCardSaid : Prop := Claim7.holds Tryd.pinned (.plain (OpenSpec.upto billEarlierSpec)) billEarlierUptoCard

/-- THE SECOND FORM's CARD OF 'tollwaylaw34.BillOnce'. -/
def billOnceUptoCard : Claim7 := { stood := { row := billOnceUptoRow, standIns := [], harness := (true, "ec6e59782f089323b8faa51e11926c0434c6eea05da091783f1527683b475f46"), looks := false }, kinds := [], alts := [], laidByText := true, laidKinds := [.data], laidTests := true, laidLooks := .later }
def BillOnceUptoCardSaid : Prop := Claim7.holds Tryd.pinned (.plain (OpenSpec.upto billOnceSpec)) billOnceUptoCard

/-- THE SECOND FORM's CARD OF 'tollwaylaw34.BillSums'. -/
def billSumsUptoCard : Claim7 := { stood := { row := billSumsUptoRow, standIns := [], harness := (true, "ec6e59782f089323b8faa51e11926c0434c6eea05da091783f1527683b475f46"), looks := false }, kinds := [], alts := [], laidByText := true, laidKinds := [.data], laidTests := true, laidLooks := .later }
def BillSumsUptoCardSaid : Prop := Claim7.holds Tryd.pinned (.plain (OpenSpec.upto billSumsSpec)) billSumsUptoCard

/-- THE SECOND FORM's CARD OF 'tollwaylaw34.BillDays'. -/
def billDaysUptoCard : Claim7 := { stood := { row := billDaysUptoRow, standIns := [], harness := (true, "ec6e59782f089323b8faa51e11926c0434c6eea05da091783f1527683b475f46"), looks := false }, kinds := [], alts := [], laidByText := true, laidKinds := [.data], laidTests := true, laidLooks := .later }
def BillDaysUptoCardSaid : Prop := Claim7.holds Tryd.pinned (.plain (OpenSpec.upto billDaysSpec)) billDaysUptoCard
end Rows
end Go.Proofs.YtjgfdheodnmddaaDoor
