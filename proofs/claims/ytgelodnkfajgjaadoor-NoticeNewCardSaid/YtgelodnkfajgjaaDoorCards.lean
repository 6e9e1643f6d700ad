/-
  DERIVED. GIVEN WITH THE SEED: THE CARDS: each row of YtgelodnkfajgjaaDoorRows.lean that lists a variable, with what it lists TIED to the program's text (the seventh form; the later family's looks); each row that meets fmt, with fmt's text TOLD by the authors' own Lean function (tested against real Go, not proved from fmt's source: count such statements apart). THE CARD IS WHAT COUNTS. Prove the row's statement (the work); the ties are given (YtgelodnkfajgjaaDoorTie.lean); close each card by the builder's one call (the guide's Derived/Test/ToyasCard.lean, 'card_holds'). Laid BY PROGRAM, IN A SANDBOX (cutbox-door.mjs). By AI agents, Wed Nov 11 2026. No macro, syntax, notation, axiom, sorry.
-/
import Derived.Test.YtgelodnkfajgjaaDoorRows
import GoSem.ClaimSeven
namespace Go.Proofs.YtgelodnkfajgjaaDoor
namespace Rows

/-- THE TIED CARD OF 'tollwaylaw10.PlateNormals'. -/
def plateNormalsCard : Claim7 := { stood := { row := plateNormalsRow, standIns := [], harness := (true, "be1ad6fb664d83d572cfdf6fb2d4e520ca4cec7e33fa8a57a57877aa962b3d3e"), looks := false }, kinds := [], alts := [], laidByText := true, laidKinds := [.data, .pinned], laidTests := true, laidLooks := .later }
def PlateNormalsCardSaid : Prop := Claim7.holds Tryd.pinned (.plain (OpenSpec.ofChange plateNormalsSpec)) plateNormalsCard

/-- THE TIED CARD OF 'tollwaylaw10.PlateNormalAgain'. -/
def plateNormalAgainCard : Claim7 := { stood := { row := plateNormalAgainRow, standIns := [], harness := (true, "be1ad6fb664d83d572cfdf6fb2d4e520ca4cec7e33fa8a57a57877aa962b3d3e"), looks := false }, kinds := [], alts := [], laidByText := true, laidKinds := [.data, .pinned], laidTests := true, laidLooks := .later }
def PlateNormalAgainCardSaid : Prop := Claim7.holds Tryd.pinned (.plain (OpenSpec.ofChange plateNormalAgainSpec)) plateNormalAgainCard

/-- THE TIED CARD OF 'tollwaylaw38.NoticeNew'. -/
def noticeNewCard : Claim7 := { stood := { row := noticeNewRow, standIns := [], harness := (true, "be1ad6fb664d83d572cfdf6fb2d4e520ca4cec7e33fa8a57a57877aa962b3d3e"), looks := false }, kinds := [], alts := [], laidByText := true, laidKinds := [.data, .pinned], laidTests := true, laidLooks := .later }
def NoticeNewCardSaid : Prop := Claim7.holds Tryd.pinned (.plain (OpenSpec.ofChange noticeNewSpec)) noticeNewCard

/-- THE SECOND FORM's CARD OF 'tollwaylaw10.PlateNormals'. -/
def plateNormalsUptoCard : Claim7 := { stood := { row := plateNormalsUptoRow, standIns := [], harness := (true, "be1ad6fb664d83d572cfdf6fb2d4e520ca4cec7e33fa8a57a57877aa962b3d3e"), looks := false }, kinds := [], alts := [], laidByText := true, laidKinds := [.data, .pinned], laidTests := true, laidLooks := .later }
def PlateNormalsUptoCardSaid : Prop := Claim7.holds Tryd.pinned (.plain (OpenSpec.upto plateNormalsSpec)) plateNormalsUptoCard

/-- THE SECOND FORM's CARD OF 'tollwaylaw10.PlateNormalAgain'. -/
def plateNormalAgainUptoCard : Claim7 := { stood := { row := plateNormalAgainUptoRow, standIns := [], harness := (true, "be1ad6fb664d83d572cfdf6fb2d4e520ca4cec7e33fa8a57a57877aa962b3d3e"), looks := false }, kinds := [], alts := [], laidByText := true, laidKinds := [.data, .pinned], laidTests := true, laidLooks := .later }
def PlateNormalAgainUptoCardSaid : Prop := Claim7.holds Tryd.pinned (.plain (OpenSpec.upto plateNormalAgainSpec)) plateNormalAgainUptoCard

/-- THE SECOND FORM's CARD OF 'tollwaylaw38.NoticeNew'. -/
def noticeNewUptoCard : Claim7 := { stood := { row := noticeNewUptoRow, standIns := [], harness := (true, "be1ad6fb664d83d572cfdf6fb2d4e520ca4cec7e33fa8a57a57877aa962b3d3e"), looks := false }, kinds := [], alts := [], laidByText := true, laidKinds := [.data, .pinned], laidTests := true, laidLooks := .later }
def NoticeNewUptoCardSaid : Prop := Claim7.holds Tryd.pinned (.plain (OpenSpec.upto noticeNewSpec)) noticeNewUptoCard
end Rows
end Go.Proofs.YtgelodnkfajgjaaDoor
