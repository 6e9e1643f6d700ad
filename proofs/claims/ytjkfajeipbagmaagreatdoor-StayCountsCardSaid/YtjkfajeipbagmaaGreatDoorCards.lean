/-
  DERIVED. GIVEN WITH THE SEED: THE CARDS: each row of YtjkfajeipbagmaaGreatDoorRows.lean that lists a variable, with what it lists TIED to the program's text (the seventh form; the later family's looks); each row that meets fmt, with fmt's text TOLD by the authors' own Lean function (tested against real Go, not proved from fmt's source: count such statements apart). THE CARD IS WHAT COUNTS. Prove the row's statement (the work); the ties are given (YtjkfajeipbagmaaGreatDoorTie.lean); close each card by the builder's one call (the guide's Derived/Test/ToyasCard.lean, 'card_holds'). Laid BY PROGRAM, IN A SANDBOX (cutbox-door.mjs). By AI agents, Wed Nov 11 2026. No macro, syntax, notation, axiom, sorry.
-/
import Derived.Test.YtjkfajeipbagmaaGreatDoorRows
import GoSem.ClaimSeven
namespace Go.Proofs.YtjkfajeipbagmaaGreatDoor
namespace Rows

/-- THE TIED CARD OF 'tollwaylaw30.StayPeaks'. -/
def stayPeaksCard : Claim7 := { stood := { row := stayPeaksRow, standIns := [], harness := (true, "11a93abc9f2c4b758c8fdf650590a13e0d87cb99d244e03034fcb61ad6a5131d"), looks := false }, kinds := [], alts := [], laidByText := true, laidKinds := [.data, .data, .data, .data, .pinned], laidTests := true, laidLooks := .later }
def StayPeaksCardSaid : Prop := Claim7.holds Tryz.pinned (.plain (OpenSpec.ofChange stayPeaksSpec)) stayPeaksCard

/-- THE TIED CARD OF 'tollwaylaw30.StayCounts'. -/
def stayCountsCard : Claim7 := { stood := { row := stayCountsRow, standIns := [], harness := (true, "11a93abc9f2c4b758c8fdf650590a13e0d87cb99d244e03034fcb61ad6a5131d"), looks := false }, kinds := [], alts := [], laidByText := true, laidKinds := [.data, .data, .data, .data, .pinned], laidTests := true, laidLooks := .later }
def StayCountsCardSaid : Prop := Claim7.holds Tryz.pinned (.plain (OpenSpec.ofChange stayCountsSpec)) stayCountsCard

/-- THE SECOND FORM's CARD OF 'tollwaylaw30.StayPeaks'. -/
def stayPeaksUptoCard : Claim7 := { stood := { row := stayPeaksUptoRow, standIns := [], harness := (true, "11a93abc9f2c4b758c8fdf650590a13e0d87cb99d244e03034fcb61ad6a5131d"), looks := false }, kinds := [], alts := [], laidByText := true, laidKinds := [.data, .data, .data, .data, .pinned], laidTests := true, laidLooks := .later }
def StayPeaksUptoCardSaid : Prop := Claim7.holds Tryz.pinned (.plain (OpenSpec.upto stayPeaksSpec)) stayPeaksUptoCard

/-- THE SECOND FORM's CARD OF 'tollwaylaw30.StayCounts'. -/
def stayCountsUptoCard : Claim7 := { stood := { row := stayCountsUptoRow, standIns := [], harness := (true, "11a93abc9f2c4b758c8fdf650590a13e0d87cb99d244e03034fcb61ad6a5131d"), looks := false }, kinds := [], alts := [], laidByText := true, laidKinds := [.data, .data, .data, .data, .pinned], laidTests := true, laidLooks := .later }
def StayCountsUptoCardSaid : Prop := Claim7.holds Tryz.pinned (.plain (OpenSpec.upto stayCountsSpec)) stayCountsUptoCard
end Rows
end Go.Proofs.YtjkfajeipbagmaaGreatDoor
