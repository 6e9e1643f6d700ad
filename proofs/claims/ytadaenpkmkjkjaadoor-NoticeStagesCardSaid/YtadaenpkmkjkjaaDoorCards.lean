/-
  DERIVED. GIVEN WITH THE SEED: THE CARDS: each row of YtadaenpkmkjkjaaDoorRows.lean that lists a variable, with what it lists TIED to the program's text (the seventh form; the later family's looks); each row that meets fmt, with fmt's text TOLD by the authors' own Lean function (tested against real Go, not proved from fmt's source: count such statements apart). THE CARD IS WHAT COUNTS. Prove the row's statement (the work); the ties are given (YtadaenpkmkjkjaaDoorTie.lean); close each card by the builder's one call (the guide's Derived/Test/ToyasCard.lean, 'card_holds'). Laid BY PROGRAM, IN A SANDBOX (cutbox-door.mjs). By AI agents, Wed Nov 11 2026. No macro, syntax, notation, axiom, sorry.
-/
import Derived.Test.YtadaenpkmkjkjaaDoorRows
import GoSem.ClaimSeven
namespace Go.Proofs.YtadaenpkmkjkjaaDoor
namespace Rows

/-- THE TIED CARD OF 'tollwaylaw38.NoticeChecks'. -/
def noticeChecksCard : Claim7 := { stood := { row := noticeChecksRow, standIns := [], harness := (true, "e45df15835e92dc0c97278d5fdc4551b0545ddc0f762fb5cbee07cccce687938"), looks := false }, kinds := [], alts := [], laidByText := true, laidKinds := [.data, .pinned], laidTests := true, laidLooks := .later }
def NoticeChecksCardSaid : Prop := Claim7.holds Tryd.pinned (.plain (OpenSpec.ofChange noticeChecksSpec)) noticeChecksCard

/-- THE TIED CARD OF 'tollwaylaw38.NoticeNew'. -/
def noticeNewCard : Claim7 := { stood := { row := noticeNewRow, standIns := [], harness := (true, "e45df15835e92dc0c97278d5fdc4551b0545ddc0f762fb5cbee07cccce687938"), looks := false }, kinds := [], alts := [], laidByText := true, laidKinds := [.data, .pinned], laidTests := true, laidLooks := .later }
def NoticeNewCardSaid : Prop := Claim7.holds Tryd.pinned (.plain (OpenSpec.ofChange noticeNewSpec)) noticeNewCard

/-- THE TIED CARD OF 'tollwaylaw38.NoticeAdvances'. -/
def noticeAdvancesCard : Claim7 := { stood := { row := noticeAdvancesRow, standIns := [], harness := (true, "e45df15835e92dc0c97278d5fdc4551b0545ddc0f762fb5cbee07cccce687938"), looks := false }, kinds := [], alts := [], laidByText := true, laidKinds := [.data, .pinned], laidTests := true, laidLooks := .later }
def NoticeAdvancesCardSaid : Prop := Claim7.holds Tryd.pinned (.plain (OpenSpec.ofChange noticeAdvancesSpec)) noticeAdvancesCard

/-- THE TIED CARD OF 'tollwaylaw38.NoticePays'. -/
def noticePaysCard : Claim7 := { stood := { row := noticePaysRow, standIns := [], harness := (true, "e45df15835e92dc0c97278d5fdc4551b0545ddc0f762fb5cbee07cccce687938"), looks := false }, kinds := [], alts := [], laidByText := true, laidKinds := [.data, .pinned], laidTests := true, laidLooks := .later }
def NoticePaysCardSaid : Prop := Claim7.holds Tryd.pinned (.plain (OpenSpec.ofChange noticePaysSpec)) noticePaysCard

/-- THE TIED CARD OF 'tollwaylaw38.NoticeTwice'. -/
def noticeTwiceCard : Claim7 := { stood := { row := noticeTwiceRow, standIns := [], harness := (true, "e45df15835e92dc0c97278d5fdc4551b0545ddc0f762fb5cbee07cccce687938"), looks := false }, kinds := [], alts := [], laidByText := true, laidKinds := [.data, .pinned], laidTests := true, laidLooks := .later }
def NoticeTwiceCardSaid : Prop := Claim7.holds Tryd.pinned (.plain (OpenSpec.ofChange noticeTwiceSpec)) noticeTwiceCard

/-- THE TIED CARD OF 'tollwaylaw38.NoticeStages'. -/
def noticeStagesCard : Claim7 := { stood := { row := noticeStagesRow, standIns := [], harness := (true, "e45df15835e92dc0c97278d5fdc4551b0545ddc0f762fb5cbee07cccce687938"), looks := false }, kinds := [], alts := [], laidByText := true, laidKinds := [.data, .pinned], laidTests := true, laidLooks := .later }
def NoticeStagesCardSaid : Prop := Claim7.holds Tryd.pinned (.plain (OpenSpec.ofChange noticeStagesSpec)) noticeStagesCard

/-- THE TIED CARD OF 'tollwaylaw38.NoticeWhole'. -/
def noticeWholeCard : Claim7 := { stood := { row := noticeWholeRow, standIns := [], harness := (true, "e45df15835e92dc0c97278d5fdc4551b0545ddc0f762fb5cbee07cccce687938"), looks := false }, kinds := [], alts := [], laidByText := true, laidKinds := [.data, .pinned], laidTests := true, laidLooks := .later }
def NoticeWholeCardSaid : Prop := Claim7.holds Tryd.pinned (.plain (OpenSpec.ofChange noticeWholeSpec)) noticeWholeCard

/-- THE SECOND FORM's CARD OF 'tollwaylaw38.NoticeChecks'. -/
def noticeChecksUptoCard : Claim7 := { stood := { row := noticeChecksUptoRow, standIns := [], harness := (true, "e45df15835e92dc0c97278d5fdc4551b0545ddc0f762fb5cbee07cccce687938"), looks := false }, kinds := [], alts := [], laidByText := true, laidKinds := [.data, .pinned], laidTests := true, laidLooks := .later }
def NoticeChecksUptoCardSaid : Prop := Claim7.holds Tryd.pinned (.plain (OpenSpec.upto noticeChecksSpec)) noticeChecksUptoCard

/-- THE SECOND FORM's CARD OF 'tollwaylaw38.NoticeNew'. -/
def noticeNewUptoCard : Claim7 := { stood := { row := noticeNewUptoRow, standIns := [], harness := (true, "e45df15835e92dc0c97278d5fdc4551b0545ddc0f762fb5cbee07cccce687938"), looks := false }, kinds := [], alts := [], laidByText := true, laidKinds := [.data, .pinned], laidTests := true, laidLooks := .later }
def NoticeNewUptoCardSaid : Prop := Claim7.holds Tryd.pinned (.plain (OpenSpec.upto noticeNewSpec)) noticeNewUptoCard

/-- THE SECOND FORM's CARD OF 'tollwaylaw38.NoticeAdvances'. -/
def noticeAdvancesUptoCard : Claim7 := { stood := { row := noticeAdvancesUptoRow, standIns := [], harness := (true, "e45df15835e92dc0c97278d5fdc4551b0545ddc0f762fb5cbee07cccce687938"), looks := false }, kinds := [], alts := [], laidByText := true, laidKinds := [.data, .pinned], laidTests := true, laidLooks := .later }
def NoticeAdvancesUptoCardSaid : Prop := Claim7.holds Tryd.pinned (.plain (OpenSpec.upto noticeAdvancesSpec)) noticeAdvancesUptoCard

/-- THE SECOND FORM's CARD OF 'tollwaylaw38.NoticePays'. -/
def noticePaysUptoCard : Claim7 := { stood := { row := noticePaysUptoRow, standIns := [], harness := (true, "e45df15835e92dc0c97278d5fdc4551b0545ddc0f762fb5cbee07cccce687938"), looks := false }, kinds := [], alts := [], laidByText := true, laidKinds := [.data, .pinned], laidTests := true, laidLooks := .later }
def NoticePaysUptoCardSaid : Prop := Claim7.holds Tryd.pinned (.plain (OpenSpec.upto noticePaysSpec)) noticePaysUptoCard

/-- THE SECOND FORM's CARD OF 'tollwaylaw38.NoticeTwice'. -/
def noticeTwiceUptoCard : Claim7 := { stood := { row := noticeTwiceUptoRow, standIns := [], harness := (true, "e45df15835e92dc0c97278d5fdc4551b0545ddc0f762fb5cbee07cccce687938"), looks := false }, kinds := [], alts := [], laidByText := true, laidKinds := [.data, .pinned], laidTests := true, laidLooks := .later }
def NoticeTwiceUptoCardSaid : Prop := Claim7.holds Tryd.pinned (.plain (OpenSpec.upto noticeTwiceSpec)) noticeTwiceUptoCard

/-- THE SECOND FORM's CARD OF 'tollwaylaw38.NoticeStages'. -/
def noticeStagesUptoCard : Claim7 := { stood := { row := noticeStagesUptoRow, standIns := [], harness := (true, "e45df15835e92dc0c97278d5fdc4551b0545ddc0f762fb5cbee07cccce687938"), looks := false }, kinds := [], alts := [], laidByText := true, laidKinds := [.data, .pinned], laidTests := true, laidLooks := .later }
def NoticeStagesUptoCardSaid : Prop := Claim7.holds Tryd.pinned (.plain (OpenSpec.upto noticeStagesSpec)) noticeStagesUptoCard

/-- THE SECOND FORM's CARD OF 'tollwaylaw38.NoticeWhole'. -/
def noticeWholeUptoCard : Claim7 := { stood := { row := noticeWholeUptoRow, standIns := [], harness := (true, "e45df15835e92dc0c97278d5fdc4551b0545ddc0f762fb5cbee07cccce687938"), looks := false }, kinds := [], alts := [], laidByText := true, laidKinds := [.data, .pinned], laidTests := true, laidLooks := .later }
def NoticeWholeUptoCardSaid : Prop := Claim7.holds Tryd.pinned (.plain (OpenSpec.upto noticeWholeSpec)) noticeWholeUptoCard
end Rows
end Go.Proofs.YtadaenpkmkjkjaaDoor
