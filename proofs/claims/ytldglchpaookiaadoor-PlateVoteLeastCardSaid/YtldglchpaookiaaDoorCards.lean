/-
  DERIVED. GIVEN WITH THE SEED: THE CARDS: each row of YtldglchpaookiaaDoorRows.lean that lists a variable, with what it lists TIED to the program's text (the seventh form; the later family's looks); each row that meets fmt, with fmt's text TOLD by the authors' own Lean function (tested against real Go, not proved from fmt's source: count such statements apart). THE CARD IS WHAT COUNTS. Prove the row's statement (the work); the ties are given (YtldglchpaookiaaDoorTie.lean); close each card by the builder's one call (the guide's Derived/Test/ToyasCard.lean, 'card_holds'). Laid BY PROGRAM, IN A SANDBOX (cutbox-door.mjs). By AI agents, Wed Nov 11 2026. No macro, syntax, notation, axiom, sorry.
-/
import Derived.Test.YtldglchpaookiaaDoorRows
import GoSem.ClaimSeven
namespace Go.Proofs.YtldglchpaookiaaDoor
namespace Rows

/-- THE TIED CARD OF 'tollwaylaw10.PlateNormals'. -/
def plateNormalsCard : Claim7 := { stood := { row := plateNormalsRow, standIns := [], harness := (true, "bc1bbf89fbe314fca92c83798ea1685e91cd08251c44e493443374e25a644696"), looks := false }, kinds := [], alts := [], laidByText := true, laidKinds := [.data, .pinned], laidTests := true, laidLooks := .later }
def PlateNormalsCardSaid : Prop := Claim7.holds Tryd.pinned (.plain (OpenSpec.ofChange plateNormalsSpec)) plateNormalsCard

/-- THE TIED CARD OF 'tollwaylaw10.PlateDistances'. -/
def plateDistancesCard : Claim7 := { stood := { row := plateDistancesRow, standIns := [], harness := (true, "bc1bbf89fbe314fca92c83798ea1685e91cd08251c44e493443374e25a644696"), looks := false }, kinds := [], alts := [], laidByText := true, laidKinds := [.data, .pinned], laidTests := true, laidLooks := .later }
def PlateDistancesCardSaid : Prop := Claim7.holds Tryd.pinned (.plain (OpenSpec.ofChange plateDistancesSpec)) plateDistancesCard

/-- THE TIED CARD OF 'tollwaylaw10.PlateLikes'. -/
def plateLikesCard : Claim7 := { stood := { row := plateLikesRow, standIns := [], harness := (true, "bc1bbf89fbe314fca92c83798ea1685e91cd08251c44e493443374e25a644696"), looks := false }, kinds := [], alts := [], laidByText := true, laidKinds := [.data, .pinned], laidTests := true, laidLooks := .later }
def PlateLikesCardSaid : Prop := Claim7.holds Tryd.pinned (.plain (OpenSpec.ofChange plateLikesSpec)) plateLikesCard

/-- THE TIED CARD OF 'tollwaylaw10.PlateNears'. -/
def plateNearsCard : Claim7 := { stood := { row := plateNearsRow, standIns := [], harness := (true, "bc1bbf89fbe314fca92c83798ea1685e91cd08251c44e493443374e25a644696"), looks := false }, kinds := [], alts := [], laidByText := true, laidKinds := [.data, .pinned], laidTests := true, laidLooks := .later }
def PlateNearsCardSaid : Prop := Claim7.holds Tryd.pinned (.plain (OpenSpec.ofChange plateNearsSpec)) plateNearsCard

/-- THE TIED CARD OF 'tollwaylaw10.PlateVotes'. -/
def plateVotesCard : Claim7 := { stood := { row := plateVotesRow, standIns := [], harness := (true, "bc1bbf89fbe314fca92c83798ea1685e91cd08251c44e493443374e25a644696"), looks := false }, kinds := [], alts := [], laidByText := true, laidKinds := [.data, .pinned], laidTests := true, laidLooks := .later }
def PlateVotesCardSaid : Prop := Claim7.holds Tryd.pinned (.plain (OpenSpec.ofChange plateVotesSpec)) plateVotesCard

/-- THE TIED CARD OF 'tollwaylaw10.PlateSymmetric'. -/
def plateSymmetricCard : Claim7 := { stood := { row := plateSymmetricRow, standIns := [], harness := (true, "bc1bbf89fbe314fca92c83798ea1685e91cd08251c44e493443374e25a644696"), looks := false }, kinds := [], alts := [], laidByText := true, laidKinds := [.data, .pinned], laidTests := true, laidLooks := .later }
def PlateSymmetricCardSaid : Prop := Claim7.holds Tryd.pinned (.plain (OpenSpec.ofChange plateSymmetricSpec)) plateSymmetricCard

/-- THE TIED CARD OF 'tollwaylaw10.PlateNormalAgain'. -/
def plateNormalAgainCard : Claim7 := { stood := { row := plateNormalAgainRow, standIns := [], harness := (true, "bc1bbf89fbe314fca92c83798ea1685e91cd08251c44e493443374e25a644696"), looks := false }, kinds := [], alts := [], laidByText := true, laidKinds := [.data, .pinned], laidTests := true, laidLooks := .later }
def PlateNormalAgainCardSaid : Prop := Claim7.holds Tryd.pinned (.plain (OpenSpec.ofChange plateNormalAgainSpec)) plateNormalAgainCard

/-- THE TIED CARD OF 'tollwaylaw10.PlateVoteLeast'. -/
def plateVoteLeastCard : Claim7 := { stood := { row := plateVoteLeastRow, standIns := [], harness := (true, "bc1bbf89fbe314fca92c83798ea1685e91cd08251c44e493443374e25a644696"), looks := false }, kinds := [], alts := [], laidByText := true, laidKinds := [.data, .pinned], laidTests := true, laidLooks := .later }
def PlateVoteLeastCardSaid : Prop := Claim7.holds Tryd.pinned (.plain (OpenSpec.ofChange plateVoteLeastSpec)) plateVoteLeastCard

/-- THE SECOND FORM's CARD OF 'tollwaylaw10.PlateNormals'. -/
def plateNormalsUptoCard : Claim7 := { stood := { row := plateNormalsUptoRow, standIns := [], harness := (true, "bc1bbf89fbe314fca92c83798ea1685e91cd08251c44e493443374e25a644696"), looks := false }, kinds := [], alts := [], laidByText := true, laidKinds := [.data, .pinned], laidTests := true, laidLooks := .later }
def PlateNormalsUptoCardSaid : Prop := Claim7.holds Tryd.pinned (.plain (OpenSpec.upto plateNormalsSpec)) plateNormalsUptoCard

/-- THE SECOND FORM's CARD OF 'tollwaylaw10.PlateDistances'. -/
def plateDistancesUptoCard : Claim7 := { stood := { row := plateDistancesUptoRow, standIns := [], harness := (true, "bc1bbf89fbe314fca92c83798ea1685e91cd08251c44e493443374e25a644696"), looks := false }, kinds := [], alts := [], laidByText := true, laidKinds := [.data, .pinned], laidTests := true, laidLooks := .later }
def PlateDistancesUptoCardSaid : Prop := Claim7.holds Tryd.pinned (.plain (OpenSpec.upto plateDistancesSpec)) plateDistancesUptoCard

/-- THE SECOND FORM's CARD OF 'tollwaylaw10.PlateLikes'. -/
def plateLikesUptoCard : Claim7 := { stood := { row := plateLikesUptoRow, standIns := [], harness := (true, "bc1bbf89fbe314fca92c83798ea1685e91cd08251c44e493443374e25a644696"), looks := false }, kinds := [], alts := [], laidByText := true, laidKinds := [.data, .pinned], laidTests := true, laidLooks := .later }
def PlateLikesUptoCardSaid : Prop := Claim7.holds Tryd.pinned (.plain (OpenSpec.upto plateLikesSpec)) plateLikesUptoCard

/-- THE SECOND FORM's CARD OF 'tollwaylaw10.PlateNears'. -/
def plateNearsUptoCard : Claim7 := { stood := { row := plateNearsUptoRow, standIns := [], harness := (true, "bc1bbf89fbe314fca92c83798ea1685e91cd08251c44e493443374e25a644696"), looks := false }, kinds := [], alts := [], laidByText := true, laidKinds := [.data, .pinned], laidTests := true, laidLooks := .later }
def PlateNearsUptoCardSaid : Prop := Claim7.holds Tryd.pinned (.plain (OpenSpec.upto plateNearsSpec)) plateNearsUptoCard

/-- THE SECOND FORM's CARD OF 'tollwaylaw10.PlateVotes'. -/
def plateVotesUptoCard : Claim7 := { stood := { row := plateVotesUptoRow, standIns := [], harness := (true, "bc1bbf89fbe314fca92c83798ea1685e91cd08251c44e493443374e25a644696"), looks := false }, kinds := [], alts := [], laidByText := true, laidKinds := [.data, .pinned], laidTests := true, laidLooks := .later }
def PlateVotesUptoCardSaid : Prop := Claim7.holds Tryd.pinned (.plain (OpenSpec.upto plateVotesSpec)) plateVotesUptoCard

/-- THE SECOND FORM's CARD OF 'tollwaylaw10.PlateSymmetric'. -/
def plateSymmetricUptoCard : Claim7 := { stood := { row := plateSymmetricUptoRow, standIns := [], harness := (true, "bc1bbf89fbe314fca92c83798ea1685e91cd08251c44e493443374e25a644696"), looks := false }, kinds := [], alts := [], laidByText := true, laidKinds := [.data, .pinned], laidTests := true, laidLooks := .later }
def PlateSymmetricUptoCardSaid : Prop := Claim7.holds Tryd.pinned (.plain (OpenSpec.upto plateSymmetricSpec)) plateSymmetricUptoCard

/-- THE SECOND FORM's CARD OF 'tollwaylaw10.PlateNormalAgain'. -/
def plateNormalAgainUptoCard : Claim7 := { stood := { row := plateNormalAgainUptoRow, standIns := [], harness := (true, "bc1bbf89fbe314fca92c83798ea1685e91cd08251c44e493443374e25a644696"), looks := false }, kinds := [], alts := [], laidByText := true, laidKinds := [.data, .pinned], laidTests := true, laidLooks := .later }
def PlateNormalAgainUptoCardSaid : Prop := Claim7.holds Tryd.pinned (.plain (OpenSpec.upto plateNormalAgainSpec)) plateNormalAgainUptoCard

/-- THE SECOND FORM's CARD OF 'tollwaylaw10.PlateVoteLeast'. -/
def plateVoteLeastUptoCard : Claim7 := { stood := { row := plateVoteLeastUptoRow, standIns := [], harness := (true, "bc1bbf89fbe314fca92c83798ea1685e91cd08251c44e493443374e25a644696"), looks := false }, kinds := [], alts := [], laidByText := true, laidKinds := [.data, .pinned], laidTests := true, laidLooks := .later }
def PlateVoteLeastUptoCardSaid : Prop := Claim7.holds Tryd.pinned (.plain (OpenSpec.upto plateVoteLeastSpec)) plateVoteLeastUptoCard
end Rows
end Go.Proofs.YtldglchpaookiaaDoor
