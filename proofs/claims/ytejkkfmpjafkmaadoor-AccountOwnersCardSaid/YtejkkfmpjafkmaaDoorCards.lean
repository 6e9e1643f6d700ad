/-
  DERIVED. GIVEN WITH THE SEED: THE CARDS: each row of YtejkkfmpjafkmaaDoorRows.lean that lists a variable, with what it lists TIED to the program's text (the seventh form; the later family's looks); each row that meets fmt, with fmt's text TOLD by the authors' own Lean function (tested against real Go, not proved from fmt's source: count such statements apart). THE CARD IS WHAT COUNTS. Prove the row's statement (the work); the ties are given (YtejkkfmpjafkmaaDoorTie.lean); close each card by the builder's one call (the guide's Derived/Test/ToyasCard.lean, 'card_holds'). Laid BY PROGRAM, IN A SANDBOX (cutbox-door.mjs). By AI agents, Wed Nov 11 2026. No macro, syntax, notation, axiom, sorry.
-/
import Derived.Test.YtejkkfmpjafkmaaDoorRows
import GoSem.ClaimSeven
namespace Go.Proofs.YtejkkfmpjafkmaaDoor
namespace Rows

/-- THE TIED CARD OF 'tollwaylaw33.AccountOwners'. -/
def accountOwnersCard : Claim7 := { stood := { row := accountOwnersRow, standIns := [], harness := (true, "81abe9dae5ae0843b0048464f679372ae4f835295d1b3a0636654b87439427d5"), looks := false }, kinds := [], alts := [], laidByText := true, laidKinds := [.data, .pinned], laidTests := true, laidLooks := .later }
def AccountOwnersCardSaid : Prop := Claim7.holds Tryd.pinned (.plain (OpenSpec.ofChange accountOwnersSpec)) accountOwnersCard

/-- THE TIED CARD OF 'tollwaylaw33.AccountUnlinks'. -/
def accountUnlinksCard : Claim7 := { stood := { row := accountUnlinksRow, standIns := [], harness := (true, "81abe9dae5ae0843b0048464f679372ae4f835295d1b3a0636654b87439427d5"), looks := false }, kinds := [], alts := [], laidByText := true, laidKinds := [.data, .pinned], laidTests := true, laidLooks := .later }
def AccountUnlinksCardSaid : Prop := Claim7.holds Tryd.pinned (.plain (OpenSpec.ofChange accountUnlinksSpec)) accountUnlinksCard

/-- THE TIED CARD OF 'tollwaylaw33.AccountOne'. -/
def accountOneCard : Claim7 := { stood := { row := accountOneRow, standIns := [], harness := (true, "81abe9dae5ae0843b0048464f679372ae4f835295d1b3a0636654b87439427d5"), looks := false }, kinds := [], alts := [], laidByText := true, laidKinds := [.data, .pinned], laidTests := true, laidLooks := .later }
def AccountOneCardSaid : Prop := Claim7.holds Tryd.pinned (.plain (OpenSpec.ofChange accountOneSpec)) accountOneCard

/-- THE TIED CARD OF 'tollwaylaw33.AccountMoves'. -/
def accountMovesCard : Claim7 := { stood := { row := accountMovesRow, standIns := [], harness := (true, "81abe9dae5ae0843b0048464f679372ae4f835295d1b3a0636654b87439427d5"), looks := false }, kinds := [], alts := [], laidByText := true, laidKinds := [.data, .pinned], laidTests := true, laidLooks := .later }
def AccountMovesCardSaid : Prop := Claim7.holds Tryd.pinned (.plain (OpenSpec.ofChange accountMovesSpec)) accountMovesCard

/-- THE SECOND FORM's CARD OF 'tollwaylaw33.AccountOwners'. -/
def accountOwnersUptoCard : Claim7 := { stood := { row := accountOwnersUptoRow, standIns := [], harness := (true, "81abe9dae5ae0843b0048464f679372ae4f835295d1b3a0636654b87439427d5"), looks := false }, kinds := [], alts := [], laidByText := true, laidKinds := [.data, .pinned], laidTests := true, laidLooks := .later }
def AccountOwnersUptoCardSaid : Prop := Claim7.holds Tryd.pinned (.plain (OpenSpec.upto accountOwnersSpec)) accountOwnersUptoCard

/-- THE SECOND FORM's CARD OF 'tollwaylaw33.AccountUnlinks'. -/
def accountUnlinksUptoCard : Claim7 := { stood := { row := accountUnlinksUptoRow, standIns := [], harness := (true, "81abe9dae5ae0843b0048464f679372ae4f835295d1b3a0636654b87439427d5"), looks := false }, kinds := [], alts := [], laidByText := true, laidKinds := [.data, .pinned], laidTests := true, laidLooks := .later }
def AccountUnlinksUptoCardSaid : Prop := Claim7.holds Tryd.pinned (.plain (OpenSpec.upto accountUnlinksSpec)) accountUnlinksUptoCard

/-- THE SECOND FORM's CARD OF 'tollwaylaw33.AccountOne'. -/
def accountOneUptoCard : Claim7 := { stood := { row := accountOneUptoRow, standIns := [], harness := (true, "81abe9dae5ae0843b0048464f679372ae4f835295d1b3a0636654b87439427d5"), looks := false }, kinds := [], alts := [], laidByText := true, laidKinds := [.data, .pinned], laidTests := true, laidLooks := .later }
def AccountOneUptoCardSaid : Prop := Claim7.holds Tryd.pinned (.plain (OpenSpec.upto accountOneSpec)) accountOneUptoCard

/-- THE SECOND FORM's CARD OF 'tollwaylaw33.AccountMoves'. -/
def accountMovesUptoCard : Claim7 := { stood := { row := accountMovesUptoRow, standIns := [], harness := (true, "81abe9dae5ae0843b0048464f679372ae4f835295d1b3a0636654b87439427d5"), looks := false }, kinds := [], alts := [], laidByText := true, laidKinds := [.data, .pinned], laidTests := true, laidLooks := .later }
def AccountMovesUptoCardSaid : Prop := Claim7.holds Tryd.pinned (.plain (OpenSpec.upto accountMovesSpec)) accountMovesUptoCard
end Rows
end Go.Proofs.YtejkkfmpjafkmaaDoor
