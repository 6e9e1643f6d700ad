/-
  DERIVED. GIVEN WITH THE SEED: THE CARDS: each row of YteeofplcnnhcnaaDoorRows.lean that lists a variable, with what it lists TIED to the program's text (the seventh form; the later family's looks); each row that meets fmt, with fmt's text TOLD by the authors' own Lean function (tested against real Go, not proved from fmt's source: count such statements apart). THE CARD IS WHAT COUNTS. Prove the row's statement (the work); the ties are given (YteeofplcnnhcnaaDoorTie.lean); close each card by the builder's one call (the guide's Derived/Test/ToyasCard.lean, 'card_holds'). Laid BY PROGRAM, IN A SANDBOX (cutbox-door.mjs). By AI agents, Wed Nov 11 2026. No macro, syntax, notation, axiom, sorry.
-/
import Derived.Test.YteeofplcnnhcnaaDoorRows
import GoSem.ClaimSeven
namespace Go.Proofs.YteeofplcnnhcnaaDoor
namespace Rows

/-- THE TIED CARD OF 'tollwaylaw25.CapChecks'. -/
def capChecksCard : Claim7 := { stood := { row := capChecksRow, standIns := [], harness := (true, "4d1d8e2d36df3e562bcc23b0b888299909af822b3271dac92e9fa54adccc53f9"), looks := false }, kinds := [], alts := [], laidByText := true, laidKinds := [.data], laidTests := true, laidLooks := .later }
def CapChecksCardSaid : Prop := Claim7.holds Tryd.pinned (.plain (OpenSpec.ofChange capChecksSpec)) capChecksCard

/-- THE TIED CARD OF 'tollwaylaw25.CapLefts'. -/
def capLeftsCard : Claim7 := { stood := { row := capLeftsRow, standIns := [], harness := (true, "4d1d8e2d36df3e562bcc23b0b888299909af822b3271dac92e9fa54adccc53f9"), looks := false }, kinds := [], alts := [], laidByText := true, laidKinds := [.data], laidTests := true, laidLooks := .later }
def CapLeftsCardSaid : Prop := Claim7.holds Tryd.pinned (.plain (OpenSpec.ofChange capLeftsSpec)) capLeftsCard

/-- THE SECOND FORM's CARD OF 'tollwaylaw25.CapChecks'. -/
def capChecksUptoCard : Claim7 := { stood := { row := capChecksUptoRow, standIns := [], harness := (true, "4d1d8e2d36df3e562bcc23b0b888299909af822b3271dac92e9fa54adccc53f9"), looks := false }, kinds := [], alts := [], laidByText := true, laidKinds := [.data], laidTests := true, laidLooks := .later }
def CapChecksUptoCardSaid : Prop := Claim7.holds Tryd.pinned (.plain (OpenSpec.upto capChecksSpec)) capChecksUptoCard

/-- THE SECOND FORM's CARD OF 'tollwaylaw25.CapLefts'. -/
def capLeftsUptoCard : Claim7 := { stood := { row := capLeftsUptoRow, standIns := [], harness := (true, "4d1d8e2d36df3e562bcc23b0b888299909af822b3271dac92e9fa54adccc53f9"), looks := false }, kinds := [], alts := [], laidByText := true, laidKinds := [.data], laidTests := true, laidLooks := .later }
def CapLeftsUptoCardSaid : Prop := Claim7.holds Tryd.pinned (.plain (OpenSpec.upto capLeftsSpec)) capLeftsUptoCard
end Rows
end Go.Proofs.YteeofplcnnhcnaaDoor
