/-
  DERIVED. GIVEN WITH THE SEED: THE CARDS: each row of YtcgcccieccicnaaDoorRows.lean that lists a variable, with what it lists TIED to the program's text (the seventh form; the later family's looks); each row that meets fmt, with fmt's text TOLD by the authors' own Lean function (tested against real Go, not proved from fmt's source: count such statements apart). THE CARD IS WHAT COUNTS. Prove the row's statement (the work); the ties are given (YtcgcccieccicnaaDoorTie.lean); close each card by the builder's one call (the guide's Derived/Test/ToyasCard.lean, 'card_holds'). Laid BY PROGRAM, IN A SANDBOX (cutbox-door.mjs). By AI agents, Wed Nov 11 2026. No macro, syntax, notation, axiom, sorry.
-/
import Derived.Test.YtcgcccieccicnaaDoorRows
import GoSem.ClaimSeven
namespace Go.Proofs.YtcgcccieccicnaaDoor
namespace Rows

/-- THE TIED CARD OF 'tollwaylaw01.TextNames'. -/
def textNamesCard : Claim7 := { stood := { row := textNamesRow, standIns := [], harness := (true, "f655be8600e249d12277db03447ce91438fe16f19031f0828d92364ce386e243"), looks := false }, kinds := [], alts := [], laidByText := true, laidKinds := [.data, .data, .data], laidTests := true, laidLooks := .later }
def TextNamesCardSaid : Prop := Claim7.holds Tryd.pinned (.plain (OpenSpec.ofChange textNamesSpec)) textNamesCard

/-- THE TIED CARD OF 'tollwaylaw01.TextFields'. -/
def textFieldsCard : Claim7 := { stood := { row := textFieldsRow, standIns := [], harness := (true, "f655be8600e249d12277db03447ce91438fe16f19031f0828d92364ce386e243"), looks := false }, kinds := [], alts := [], laidByText := true, laidKinds := [.data, .data, .data], laidTests := true, laidLooks := .later }
def TextFieldsCardSaid : Prop := Claim7.holds Tryd.pinned (.plain (OpenSpec.ofChange textFieldsSpec)) textFieldsCard

/-- THE TIED CARD OF 'tollwaylaw01.TextNumbers'. -/
def textNumbersCard : Claim7 := { stood := { row := textNumbersRow, standIns := [], harness := (true, "f655be8600e249d12277db03447ce91438fe16f19031f0828d92364ce386e243"), looks := false }, kinds := [], alts := [], laidByText := true, laidKinds := [.data, .data, .data], laidTests := true, laidLooks := .later }
def TextNumbersCardSaid : Prop := Claim7.holds Tryd.pinned (.plain (OpenSpec.ofChange textNumbersSpec)) textNumbersCard

/-- THE TIED CARD OF 'tollwaylaw01.TextLines'. -/
def textLinesCard : Claim7 := { stood := { row := textLinesRow, standIns := [], harness := (true, "f655be8600e249d12277db03447ce91438fe16f19031f0828d92364ce386e243"), looks := false }, kinds := [], alts := [], laidByText := true, laidKinds := [.data, .data, .data], laidTests := true, laidLooks := .later }
def TextLinesCardSaid : Prop := Claim7.holds Tryd.pinned (.plain (OpenSpec.ofChange textLinesSpec)) textLinesCard

/-- THE TIED CARD OF 'tollwaylaw01.TextEscapes'. -/
def textEscapesCard : Claim7 := { stood := { row := textEscapesRow, standIns := [], harness := (true, "f655be8600e249d12277db03447ce91438fe16f19031f0828d92364ce386e243"), looks := false }, kinds := [], alts := [], laidByText := true, laidKinds := [.data, .data, .data], laidTests := true, laidLooks := .later }
def TextEscapesCardSaid : Prop := Claim7.holds Tryd.pinned (.plain (OpenSpec.ofChange textEscapesSpec)) textEscapesCard

/-- THE TIED CARD OF 'tollwaylaw01.TextJoins'. -/
def textJoinsCard : Claim7 := { stood := { row := textJoinsRow, standIns := [], harness := (true, "f655be8600e249d12277db03447ce91438fe16f19031f0828d92364ce386e243"), looks := false }, kinds := [], alts := [], laidByText := true, laidKinds := [.data, .data, .data], laidTests := true, laidLooks := .later }
def TextJoinsCardSaid : Prop := Claim7.holds Tryd.pinned (.plain (OpenSpec.ofChange textJoinsSpec)) textJoinsCard

/-- THE TIED CARD OF 'tollwaylaw01.TextNumberBack'. -/
def textNumberBackCard : Claim7 := { stood := { row := textNumberBackRow, standIns := [], harness := (true, "f655be8600e249d12277db03447ce91438fe16f19031f0828d92364ce386e243"), looks := false }, kinds := [], alts := [], laidByText := true, laidKinds := [.data, .data, .data], laidTests := true, laidLooks := .later }
def TextNumberBackCardSaid : Prop := Claim7.holds Tryd.pinned (.plain (OpenSpec.ofChange textNumberBackSpec)) textNumberBackCard

/-- THE TIED CARD OF 'tollwaylaw01.TextEscapeBack'. -/
def textEscapeBackCard : Claim7 := { stood := { row := textEscapeBackRow, standIns := [], harness := (true, "f655be8600e249d12277db03447ce91438fe16f19031f0828d92364ce386e243"), looks := false }, kinds := [], alts := [], laidByText := true, laidKinds := [.data, .data, .data], laidTests := true, laidLooks := .later }
def TextEscapeBackCardSaid : Prop := Claim7.holds Tryd.pinned (.plain (OpenSpec.ofChange textEscapeBackSpec)) textEscapeBackCard

/-- THE TIED CARD OF 'tollwaylaw01.TextFieldsBack'. -/
def textFieldsBackCard : Claim7 := { stood := { row := textFieldsBackRow, standIns := [], harness := (true, "f655be8600e249d12277db03447ce91438fe16f19031f0828d92364ce386e243"), looks := false }, kinds := [], alts := [], laidByText := true, laidKinds := [.data, .data, .data], laidTests := true, laidLooks := .later }
def TextFieldsBackCardSaid : Prop := Claim7.holds Tryd.pinned (.plain (OpenSpec.ofChange textFieldsBackSpec)) textFieldsBackCard

/-- THE TIED CARD OF 'tollwaylaw01.TextLinesBack'. -/
def textLinesBackCard : Claim7 := { stood := { row := textLinesBackRow, standIns := [], harness := (true, "f655be8600e249d12277db03447ce91438fe16f19031f0828d92364ce386e243"), looks := false }, kinds := [], alts := [], laidByText := true, laidKinds := [.data, .data, .data], laidTests := true, laidLooks := .later }
def TextLinesBackCardSaid : Prop := Claim7.holds Tryd.pinned (.plain (OpenSpec.ofChange textLinesBackSpec)) textLinesBackCard

/-- THE SECOND FORM's CARD OF 'tollwaylaw01.TextNames'. -/
def textNamesUptoCard : Claim7 := { stood := { row := textNamesUptoRow, standIns := [], harness := (true, "f655be8600e249d12277db03447ce91438fe16f19031f0828d92364ce386e243"), looks := false }, kinds := [], alts := [], laidByText := true, laidKinds := [.data, .data, .data], laidTests := true, laidLooks := .later }
def TextNamesUptoCardSaid : Prop := Claim7.holds Tryd.pinned (.plain (OpenSpec.upto textNamesSpec)) textNamesUptoCard

/-- THE SECOND FORM's CARD OF 'tollwaylaw01.TextFields'. -/
def textFieldsUptoCard : Claim7 := { stood := { row := textFieldsUptoRow, standIns := [], harness := (true, "f655be8600e249d12277db03447ce91438fe16f19031f0828d92364ce386e243"), looks := false }, kinds := [], alts := [], laidByText := true, laidKinds := [.data, .data, .data], laidTests := true, laidLooks := .later }
def TextFieldsUptoCardSaid : Prop := Claim7.holds Tryd.pinned (.plain (OpenSpec.upto textFieldsSpec)) textFieldsUptoCard

/-- THE SECOND FORM's CARD OF 'tollwaylaw01.TextNumbers'. -/
def textNumbersUptoCard : Claim7 := { stood := { row := textNumbersUptoRow, standIns := [], harness := (true, "f655be8600e249d12277db03447ce91438fe16f19031f0828d92364ce386e243"), looks := false }, kinds := [], alts := [], laidByText := true, laidKinds := [.data, .data, .data], laidTests := true, laidLooks := .later }
def TextNumbersUptoCardSaid : Prop := Claim7.holds Tryd.pinned (.plain (OpenSpec.upto textNumbersSpec)) textNumbersUptoCard

/-- THE SECOND FORM's CARD OF 'tollwaylaw01.TextLines'. -/
def textLinesUptoCard : Claim7 := { stood := { row := textLinesUptoRow, standIns := [], harness := (true, "f655be8600e249d12277db03447ce91438fe16f19031f0828d92364ce386e243"), looks := false }, kinds := [], alts := [], laidByText := true, laidKinds := [.data, .data, .data], laidTests := true, laidLooks := .later }
def TextLinesUptoCardSaid : Prop := Claim7.holds Tryd.pinned (.plain (OpenSpec.upto textLinesSpec)) textLinesUptoCard

/-- THE SECOND FORM's CARD OF 'tollwaylaw01.TextEscapes'. -/
def textEscapesUptoCard : Claim7 := { stood := { row := textEscapesUptoRow, standIns := [], harness := (true, "f655be8600e249d12277db03447ce91438fe16f19031f0828d92364ce386e243"), looks := false }, kinds := [], alts := [], laidByText := true, laidKinds := [.data, .data, .data], laidTests := true, laidLooks := .later }
def TextEscapesUptoCardSaid : Prop := Claim7.holds Tryd.pinned (.plain (OpenSpec.upto textEscapesSpec)) textEscapesUptoCard

/-- THE SECOND FORM's CARD OF 'tollwaylaw01.TextJoins'. -/
def textJoinsUptoCard : Claim7 := { stood := { row := textJoinsUptoRow, standIns := [], harness := (true, "f655be8600e249d12277db03447ce91438fe16f19031f0828d92364ce386e243"), looks := false }, kinds := [], alts := [], laidByText := true, laidKinds := [.data, .data, .data], laidTests := true, laidLooks := .later }
def TextJoinsUptoCardSaid : Prop := Claim7.holds Tryd.pinned (.plain (OpenSpec.upto textJoinsSpec)) textJoinsUptoCard

/-- THE SECOND FORM's CARD OF 'tollwaylaw01.TextNumberBack'. -/
def textNumberBackUptoCard : Claim7 := { stood := { row := textNumberBackUptoRow, standIns := [], harness := (true, "f655be8600e249d12277db03447ce91438fe16f19031f0828d92364ce386e243"), looks := false }, kinds := [], alts := [], laidByText := true, laidKinds := [.data, .data, .data], laidTests := true, laidLooks := .later }
def TextNumberBackUptoCardSaid : Prop := Claim7.holds Tryd.pinned (.plain (OpenSpec.upto textNumberBackSpec)) textNumberBackUptoCard

/-- THE SECOND FORM's CARD OF 'tollwaylaw01.TextEscapeBack'. -/
def textEscapeBackUptoCard : Claim7 := { stood := { row := textEscapeBackUptoRow, standIns := [], harness := (true, "f655be8600e249d12277db03447ce91438fe16f19031f0828d92364ce386e243"), looks := false }, kinds := [], alts := [], laidByText := true, laidKinds := [.data, .data, .data], laidTests := true, laidLooks := .later }
def TextEscapeBackUptoCardSaid : Prop := Claim7.holds Tryd.pinned (.plain (OpenSpec.upto textEscapeBackSpec)) textEscapeBackUptoCard

/-- THE SECOND FORM's CARD OF 'tollwaylaw01.TextFieldsBack'. -/
def textFieldsBackUptoCard : Claim7 := { stood := { row := textFieldsBackUptoRow, standIns := [], harness := (true, "f655be8600e249d12277db03447ce91438fe16f19031f0828d92364ce386e243"), looks := false }, kinds := [], alts := [], laidByText := true, laidKinds := [.data, .data, .data], laidTests := true, laidLooks := .later }
def TextFieldsBackUptoCardSaid : Prop := Claim7.holds Tryd.pinned (.plain (OpenSpec.upto textFieldsBackSpec)) textFieldsBackUptoCard

/-- THE SECOND FORM's CARD OF 'tollwaylaw01.TextLinesBack'. -/
def textLinesBackUptoCard : Claim7 := { stood := { row := textLinesBackUptoRow, standIns := [], harness := (true, "f655be8600e249d12277db03447ce91438fe16f19031f0828d92364ce386e243"), looks := false }, kinds := [], alts := [], laidByText := true, laidKinds := [.data, .data, .data], laidTests := true, laidLooks := .later }
def TextLinesBackUptoCardSaid : Prop := Claim7.holds Tryd.pinned (.plain (OpenSpec.upto textLinesBackSpec)) textLinesBackUptoCard
end Rows
end Go.Proofs.YtcgcccieccicnaaDoor
