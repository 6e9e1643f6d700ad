/-
  DERIVED. GIVEN WITH THE SEED: THE CARDS: each row of YtgghnamjjgmimaaDoorRows.lean that lists a variable, with what it lists TIED to the program's text (the seventh form; the later family's looks); each row that meets fmt, with fmt's text TOLD by the authors' own Lean function (tested against real Go, not proved from fmt's source: count such statements apart). THE CARD IS WHAT COUNTS. Prove the row's statement (the work); the ties are given (YtgghnamjjgmimaaDoorTie.lean); close each card by the builder's one call (the guide's Derived/Test/ToyasCard.lean, 'card_holds'). Laid BY PROGRAM, IN A SANDBOX (cutbox-door.mjs). By AI agents, Wed Nov 11 2026. No macro, syntax, notation, axiom, sorry.
-/
import Derived.Test.YtgghnamjjgmimaaDoorRows
import GoSem.ClaimSeven
namespace Go.Proofs.YtgghnamjjgmimaaDoor
namespace Rows

/-- THE TIED CARD OF 'tollwaylaw11.TagChecks'. -/
def tagChecksCard : Claim7 := { stood := { row := tagChecksRow, standIns := [], harness := (true, "cfd0ffd005ee9db6dc4483ae66c0e8a68d7f688ee0b95c00edec49454e770e0e"), looks := false }, kinds := [], alts := [], laidByText := true, laidKinds := [.data, .data, .data], laidTests := true, laidLooks := .later }
def TagChecksCardSaid : Prop := Claim7.holds Tryd.pinned (.plain (OpenSpec.ofChange tagChecksSpec)) tagChecksCard

/-- THE TIED CARD OF 'tollwaylaw11.TagMakes'. -/
def tagMakesCard : Claim7 := { stood := { row := tagMakesRow, standIns := [], harness := (true, "cfd0ffd005ee9db6dc4483ae66c0e8a68d7f688ee0b95c00edec49454e770e0e"), looks := false }, kinds := [], alts := [], laidByText := true, laidKinds := [.data, .data, .data], laidTests := true, laidLooks := .later }
def TagMakesCardSaid : Prop := Claim7.holds Tryd.pinned (.plain (OpenSpec.ofChange tagMakesSpec)) tagMakesCard

/-- THE TIED CARD OF 'tollwaylaw11.TagLists'. -/
def tagListsCard : Claim7 := { stood := { row := tagListsRow, standIns := [], harness := (true, "cfd0ffd005ee9db6dc4483ae66c0e8a68d7f688ee0b95c00edec49454e770e0e"), looks := false }, kinds := [], alts := [], laidByText := true, laidKinds := [.data, .data, .data], laidTests := true, laidLooks := .later }
def TagListsCardSaid : Prop := Claim7.holds Tryd.pinned (.plain (OpenSpec.ofChange tagListsSpec)) tagListsCard

/-- THE TIED CARD OF 'tollwaylaw11.TagMany'. -/
def tagManyCard : Claim7 := { stood := { row := tagManyRow, standIns := [], harness := (true, "cfd0ffd005ee9db6dc4483ae66c0e8a68d7f688ee0b95c00edec49454e770e0e"), looks := false }, kinds := [], alts := [], laidByText := true, laidKinds := [.data, .data, .data], laidTests := true, laidLooks := .later }
def TagManyCardSaid : Prop := Claim7.holds Tryd.pinned (.plain (OpenSpec.ofChange tagManySpec)) tagManyCard

/-- THE TIED CARD OF 'tollwaylaw11.TagStates'. -/
def tagStatesCard : Claim7 := { stood := { row := tagStatesRow, standIns := [], harness := (true, "cfd0ffd005ee9db6dc4483ae66c0e8a68d7f688ee0b95c00edec49454e770e0e"), looks := false }, kinds := [], alts := [], laidByText := true, laidKinds := [.data, .data, .data], laidTests := true, laidLooks := .later }
def TagStatesCardSaid : Prop := Claim7.holds Tryd.pinned (.plain (OpenSpec.ofChange tagStatesSpec)) tagStatesCard

/-- THE TIED CARD OF 'tollwaylaw11.TagBack'. -/
def tagBackCard : Claim7 := { stood := { row := tagBackRow, standIns := [], harness := (true, "cfd0ffd005ee9db6dc4483ae66c0e8a68d7f688ee0b95c00edec49454e770e0e"), looks := false }, kinds := [], alts := [], laidByText := true, laidKinds := [.data, .data, .data], laidTests := true, laidLooks := .later }
def TagBackCardSaid : Prop := Claim7.holds Tryd.pinned (.plain (OpenSpec.ofChange tagBackSpec)) tagBackCard

/-- THE TIED CARD OF 'tollwaylaw11.TagMisread'. -/
def tagMisreadCard : Claim7 := { stood := { row := tagMisreadRow, standIns := [], harness := (true, "cfd0ffd005ee9db6dc4483ae66c0e8a68d7f688ee0b95c00edec49454e770e0e"), looks := false }, kinds := [], alts := [], laidByText := true, laidKinds := [.data, .data, .data], laidTests := true, laidLooks := .later }
def TagMisreadCardSaid : Prop := Claim7.holds Tryd.pinned (.plain (OpenSpec.ofChange tagMisreadSpec)) tagMisreadCard

/-- THE TIED CARD OF 'tollwaylaw11.TagHistory'. -/
def tagHistoryCard : Claim7 := { stood := { row := tagHistoryRow, standIns := [], harness := (true, "cfd0ffd005ee9db6dc4483ae66c0e8a68d7f688ee0b95c00edec49454e770e0e"), looks := false }, kinds := [], alts := [], laidByText := true, laidKinds := [.data, .data, .data], laidTests := true, laidLooks := .later }
def TagHistoryCardSaid : Prop := Claim7.holds Tryd.pinned (.plain (OpenSpec.ofChange tagHistorySpec)) tagHistoryCard

/-- THE SECOND FORM's CARD OF 'tollwaylaw11.TagChecks'. -/
def tagChecksUptoCard : Claim7 := { stood := { row := tagChecksUptoRow, standIns := [], harness := (true, "cfd0ffd005ee9db6dc4483ae66c0e8a68d7f688ee0b95c00edec49454e770e0e"), looks := false }, kinds := [], alts := [], laidByText := true, laidKinds := [.data, .data, .data], laidTests := true, laidLooks := .later }
def TagChecksUptoCardSaid : Prop := Claim7.holds Tryd.pinned (.plain (OpenSpec.upto tagChecksSpec)) tagChecksUptoCard

/-- THE SECOND FORM's CARD OF 'tollwaylaw11.TagMakes'. -/
def tagMakesUptoCard : Claim7 := { stood := { row := tagMakesUptoRow, standIns := [], harness := (true, "cfd0ffd005ee9db6dc4483ae66c0e8a68d7f688ee0b95c00edec49454e770e0e"), looks := false }, kinds := [], alts := [], laidByText := true, laidKinds := [.data, .data, .data], laidTests := true, laidLooks := .later }
def TagMakesUptoCardSaid : Prop := Claim7.holds Tryd.pinned (.plain (OpenSpec.upto tagMakesSpec)) tagMakesUptoCard

/-- THE SECOND FORM's CARD OF 'tollwaylaw11.TagLists'. -/
def tagListsUptoCard : Claim7 := { stood := { row := tagListsUptoRow, standIns := [], harness := (true, "cfd0ffd005ee9db6dc4483ae66c0e8a68d7f688ee0b95c00edec49454e770e0e"), looks := false }, kinds := [], alts := [], laidByText := true, laidKinds := [.data, .data, .data], laidTests := true, laidLooks := .later }
def TagListsUptoCardSaid : Prop := Claim7.holds Tryd.pinned (.plain (OpenSpec.upto tagListsSpec)) tagListsUptoCard

/-- THE SECOND FORM's CARD OF 'tollwaylaw11.TagMany'. -/
def tagManyUptoCard : Claim7 := { stood := { row := tagManyUptoRow, standIns := [], harness := (true, "cfd0ffd005ee9db6dc4483ae66c0e8a68d7f688ee0b95c00edec49454e770e0e"), looks := false }, kinds := [], alts := [], laidByText := true, laidKinds := [.data, .data, .data], laidTests := true, laidLooks := .later }
def TagManyUptoCardSaid : Prop := Claim7.holds Tryd.pinned (.plain (OpenSpec.upto tagManySpec)) tagManyUptoCard

/-- THE SECOND FORM's CARD OF 'tollwaylaw11.TagStates'. -/
def tagStatesUptoCard : Claim7 := { stood := { row := tagStatesUptoRow, standIns := [], harness := (true, "cfd0ffd005ee9db6dc4483ae66c0e8a68d7f688ee0b95c00edec49454e770e0e"), looks := false }, kinds := [], alts := [], laidByText := true, laidKinds := [.data, .data, .data], laidTests := true, laidLooks := .later }
def TagStatesUptoCardSaid : Prop := Claim7.holds Tryd.pinned (.plain (OpenSpec.upto tagStatesSpec)) tagStatesUptoCard

/-- THE SECOND FORM's CARD OF 'tollwaylaw11.TagBack'. -/
def tagBackUptoCard : Claim7 := { stood := { row := tagBackUptoRow, standIns := [], harness := (true, "cfd0ffd005ee9db6dc4483ae66c0e8a68d7f688ee0b95c00edec49454e770e0e"), looks := false }, kinds := [], alts := [], laidByText := true, laidKinds := [.data, .data, .data], laidTests := true, laidLooks := .later }
def TagBackUptoCardSaid : Prop := Claim7.holds Tryd.pinned (.plain (OpenSpec.upto tagBackSpec)) tagBackUptoCard

/-- THE SECOND FORM's CARD OF 'tollwaylaw11.TagMisread'. -/
def tagMisreadUptoCard : Claim7 := { stood := { row := tagMisreadUptoRow, standIns := [], harness := (true, "cfd0ffd005ee9db6dc4483ae66c0e8a68d7f688ee0b95c00edec49454e770e0e"), looks := false }, kinds := [], alts := [], laidByText := true, laidKinds := [.data, .data, .data], laidTests := true, laidLooks := .later }
def TagMisreadUptoCardSaid : Prop := Claim7.holds Tryd.pinned (.plain (OpenSpec.upto tagMisreadSpec)) tagMisreadUptoCard

/-- THE SECOND FORM's CARD OF 'tollwaylaw11.TagHistory'. -/
def tagHistoryUptoCard : Claim7 := { stood := { row := tagHistoryUptoRow, standIns := [], harness := (true, "cfd0ffd005ee9db6dc4483ae66c0e8a68d7f688ee0b95c00edec49454e770e0e"), looks := false }, kinds := [], alts := [], laidByText := true, laidKinds := [.data, .data, .data], laidTests := true, laidLooks := .later }
def TagHistoryUptoCardSaid : Prop := Claim7.holds Tryd.pinned (.plain (OpenSpec.upto tagHistorySpec)) tagHistoryUptoCard
end Rows
end Go.Proofs.YtgghnamjjgmimaaDoor
