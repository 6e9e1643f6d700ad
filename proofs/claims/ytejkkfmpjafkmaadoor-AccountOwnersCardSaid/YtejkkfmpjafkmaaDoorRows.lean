/-
  NARROWER THAN 'FOR EVERY INPUT', by the rows' own cells (each row's printed sentence says how): AccountOwners: laid · AccountUnlinks: laid · AccountOne: laid · AccountMoves: laid.
  DERIVED. THE GIVEN ROWS OF THIS SEAT. 4 by the template 'for every input the law returns true; each argument reads behind the call as it read before'; 0 by the template 'total and deterministic' (their statements: YtejkkfmpjafkmaaDoorTotals.lean).
  GIVEN WITH THE SEED: the statements are not yours to turn. If you find one false, say at which input.
  Laid BY PROGRAM, IN A SANDBOX (cutbox-rows.mjs): the forced cells as the released guide's own fill.sh prints them over the translation 16cb7bf5d9bd9120… (all of the seat's roots in one cut). By AI agents, Wed Nov 11 2026. No macro, syntax, notation, axiom, sorry.
-/
import Derived.Test.YtejkkfmpjafkmaaDoorChecked
import GoSem.PinnedTables
import GoSem.Claim
import GoSem.ClaimJoined
import GoSem.ClaimMapViews
import Derived.JoinedTies
import Derived.KernelRfl
namespace Go.Proofs.YtejkkfmpjafkmaaDoor
/- THE CELL 'sum', in the pinned program and in every row, IS THE sha256 OF THE DUMP (.gsa) THAT YtejkkfmpjafkmaaDoorProg.lean LOADS. Nothing in Lean hashes anything: it is a label: what it is worth is what the hold of that sum in a sandbox is worth. -/
noncomputable def Tryd.pinned : Pinned := { name := "ytejkkfmpjafkmaadoor", sum := "16cb7bf5d9bd91202b3413cde54f35a59167d088b5fd41e21e68a2ed048f2109", checked := Tryd.checked }
namespace Rows
def none {H : Type} : Left H := { results := [], args := [] }

/- WHAT THE LISTED PACKAGE-LEVEL VARIABLES READ AS WHEN THE CALL BEGINS. Each datum BY PROGRAM (the guide's laid-datum.mjs) off the statement by which the dump's own 'gosem.cut.vars' lays the variable. In a bare row this is a premise. The card (YtejkkfmpjafkmaaDoorCards.lean) ties it to the program's text. -/
def laid_unicode_utf8_acceptRanges {H : Type} : DataW H := .agg [.agg [.lit (.int .u8 128), .lit (.int .u8 191)], .agg [.lit (.int .u8 160), .lit (.int .u8 191)], .agg [.lit (.int .u8 128), .lit (.int .u8 159)], .agg [.lit (.int .u8 144), .lit (.int .u8 191)], .agg [.lit (.int .u8 128), .lit (.int .u8 143)], .agg [.lit (.int .u8 0), .lit (.int .u8 0)], .agg [.lit (.int .u8 0), .lit (.int .u8 0)], .agg [.lit (.int .u8 0), .lit (.int .u8 0)], .agg [.lit (.int .u8 0), .lit (.int .u8 0)], .agg [.lit (.int .u8 0), .lit (.int .u8 0)], .agg [.lit (.int .u8 0), .lit (.int .u8 0)], .agg [.lit (.int .u8 0), .lit (.int .u8 0)], .agg [.lit (.int .u8 0), .lit (.int .u8 0)], .agg [.lit (.int .u8 0), .lit (.int .u8 0)], .agg [.lit (.int .u8 0), .lit (.int .u8 0)], .agg [.lit (.int .u8 0), .lit (.int .u8 0)]]
/-- One of Go's own tables, pinned by name: the form's constant. -/
def laid_unicode_utf8_first : DataW Unit := Go.Pinned.utf8First

/-- 'tollwaylaw33.AccountOwners': WHATEVER THE INPUT: true; the input reads as it did. -/
def accountOwnersSpec : ChangeSpec := { name := "accountOwners", fn := fun _ => fun
  | [d1, d2, d3] => { results := [.lit (.bool true)], args := [d1, d2, d3] }
  | _ => none }
def accountOwnersRow : OpenClaim := { program := "ytejkkfmpjafkmaadoor", sum := "16cb7bf5d9bd91202b3413cde54f35a59167d088b5fd41e21e68a2ed048f2109", func := "tollway/tollwaylaw33.AccountOwners", spec := "accountOwners", inPlace := ["internal/abi.NoEscape", "internal/bytealg.MakeNoZero", "slices.overlaps[tollway/api.Interval]"], unfollowed := true, recurses := true, named := ["unicode/utf8.first", "unicode/utf8.acceptRanges"], plainKeys := false, apart := false, laid := [("unicode/utf8.acceptRanges", laid_unicode_utf8_acceptRanges), ("unicode/utf8.first", laid_unicode_utf8_first)] }
def AccountOwnersSaid : Prop := accountOwnersRow.holds Tryd.pinned (OpenSpec.ofChange accountOwnersSpec)

/-- ITS FALSE NEIGHBOUR: 'it returns false'. Refute it at one input. -/
def accountOwnersWrong : ChangeSpec := { name := "accountOwners", fn := fun _ => fun
  | [d1, d2, d3] => { results := [.lit (.bool false)], args := [d1, d2, d3] }
  | _ => none }
def AccountOwnersWrongFalsely : Prop := accountOwnersRow.holds Tryd.pinned (OpenSpec.ofChange accountOwnersWrong)

/-- 'tollwaylaw33.AccountUnlinks': WHATEVER THE INPUT: true; the input reads as it did. -/
def accountUnlinksSpec : ChangeSpec := { name := "accountUnlinks", fn := fun _ => fun
  | [d1, d2] => { results := [.lit (.bool true)], args := [d1, d2] }
  | _ => none }
def accountUnlinksRow : OpenClaim := { program := "ytejkkfmpjafkmaadoor", sum := "16cb7bf5d9bd91202b3413cde54f35a59167d088b5fd41e21e68a2ed048f2109", func := "tollway/tollwaylaw33.AccountUnlinks", spec := "accountUnlinks", inPlace := ["internal/abi.NoEscape", "internal/bytealg.MakeNoZero", "slices.overlaps[tollway/api.Interval]"], unfollowed := true, recurses := true, named := ["unicode/utf8.first", "unicode/utf8.acceptRanges"], plainKeys := false, apart := false, laid := [("unicode/utf8.acceptRanges", laid_unicode_utf8_acceptRanges), ("unicode/utf8.first", laid_unicode_utf8_first)] }
def AccountUnlinksSaid : Prop := accountUnlinksRow.holds Tryd.pinned (OpenSpec.ofChange accountUnlinksSpec)

/-- ITS FALSE NEIGHBOUR: 'it returns false'. Refute it at one input. -/
def accountUnlinksWrong : ChangeSpec := { name := "accountUnlinks", fn := fun _ => fun
  | [d1, d2] => { results := [.lit (.bool false)], args := [d1, d2] }
  | _ => none }
def AccountUnlinksWrongFalsely : Prop := accountUnlinksRow.holds Tryd.pinned (OpenSpec.ofChange accountUnlinksWrong)

/-- 'tollwaylaw33.AccountOne': WHATEVER THE INPUT: true; the input reads as it did. -/
def accountOneSpec : ChangeSpec := { name := "accountOne", fn := fun _ => fun
  | [d1, d2, d3] => { results := [.lit (.bool true)], args := [d1, d2, d3] }
  | _ => none }
def accountOneRow : OpenClaim := { program := "ytejkkfmpjafkmaadoor", sum := "16cb7bf5d9bd91202b3413cde54f35a59167d088b5fd41e21e68a2ed048f2109", func := "tollway/tollwaylaw33.AccountOne", spec := "accountOne", inPlace := ["internal/abi.NoEscape", "internal/bytealg.MakeNoZero", "slices.overlaps[tollway/api.Interval]"], unfollowed := true, recurses := true, named := ["unicode/utf8.first", "unicode/utf8.acceptRanges"], plainKeys := false, apart := false, laid := [("unicode/utf8.acceptRanges", laid_unicode_utf8_acceptRanges), ("unicode/utf8.first", laid_unicode_utf8_first)] }
def AccountOneSaid : Prop := accountOneRow.holds Tryd.pinned (OpenSpec.ofChange accountOneSpec)

/-- ITS FALSE NEIGHBOUR: 'it returns false'. Refute it at one input. -/
def accountOneWrong : ChangeSpec := { name := "accountOne", fn := fun _ => fun
  | [d1, d2, d3] => { results := [.lit (.bool false)], args := [d1, d2, d3] }
  | _ => none }
def AccountOneWrongFalsely : Prop := accountOneRow.holds Tryd.pinned (OpenSpec.ofChange accountOneWrong)

/-- 'tollwaylaw33.AccountMoves': WHATEVER THE INPUT: true; the input reads as it did. -/
def accountMovesSpec : ChangeSpec := { name := "accountMoves", fn := fun _ => fun
  | [d1, d2, d3, d4] => { results := [.lit (.bool true)], args := [d1, d2, d3, d4] }
  | _ => none }
def accountMovesRow : OpenClaim := { program := "ytejkkfmpjafkmaadoor", sum := "16cb7bf5d9bd91202b3413cde54f35a59167d088b5fd41e21e68a2ed048f2109", func := "tollway/tollwaylaw33.AccountMoves", spec := "accountMoves", inPlace := ["internal/abi.NoEscape", "internal/bytealg.MakeNoZero", "slices.overlaps[tollway/api.Interval]"], unfollowed := true, recurses := true, named := ["unicode/utf8.first", "unicode/utf8.acceptRanges"], plainKeys := false, apart := false, laid := [("unicode/utf8.acceptRanges", laid_unicode_utf8_acceptRanges), ("unicode/utf8.first", laid_unicode_utf8_first)] }
def AccountMovesSaid : Prop := accountMovesRow.holds Tryd.pinned (OpenSpec.ofChange accountMovesSpec)

/-- ITS FALSE NEIGHBOUR: 'it returns false'. Refute it at one input. -/
def accountMovesWrong : ChangeSpec := { name := "accountMoves", fn := fun _ => fun
  | [d1, d2, d3, d4] => { results := [.lit (.bool false)], args := [d1, d2, d3, d4] }
  | _ => none }
def AccountMovesWrongFalsely : Prop := accountMovesRow.holds Tryd.pinned (OpenSpec.ofChange accountMovesWrong)

/- THE SECOND FORM. 'bulk': how many values and letters a reading holds, each counted each time it is reached (what is shared counts as often as it is met; a slice's spare places count too). A statement '..UptoSaid' is the law's where the arguments, and the package variables that the reading takes, are together of bulk at most 1048576: NARROWER than '..Said'. Prove '..Said' where nothing that the law and all that it calls make is longer than what came in: it says more and counts as full. Else prove '..UptoSaid'. A law counts once. -/
mutual
def uptoBulk {H : Type} : DataW H → Nat
  | .lit (.string bytes) => bytes.length + 1
  | .lit _ => 1
  | .nil => 1
  | .ptr d => uptoBulk d + 1
  | .slice elems spare => uptoBulkAll elems + uptoBulkAll spare + 1
  | .agg parts => uptoBulkAll parts + 1
  | .iface _ d => uptoBulk d + 1
  | .map entries => uptoBulkEntries entries + 1
  | .held _ => 1
def uptoBulkAll {H : Type} : List (DataW H) → Nat
  | [] => 0
  | d :: r => uptoBulk d + uptoBulkAll r
def uptoBulkEntries {H : Type} : List (Lit × DataW H) → Nat
  | [] => 0
  | x :: r => uptoBulkEntry x + uptoBulkEntries r
def uptoBulkEntry {H : Type} : Lit × DataW H → Nat
  | (.string bytes, d) => bytes.length + uptoBulk d + 1
  | (_, d) => uptoBulk d + 1
 end
def uptoSmall : (H : Type) → List (DataW H) → Bool := fun _ ds => decide (uptoBulkAll ds ≤ 1048576)
def OpenSpec.upto (s : _root_.Go.ChangeSpec) : _root_.Go.OpenSpec := { _root_.Go.OpenSpec.ofChange s with cond := some uptoSmall }

/-- 'tollwaylaw33.AccountOwners', WHERE WHAT IT READS IS OF BULK AT MOST 1048576: true; the input reads as it did. -/
def accountOwnersUptoRow : OpenClaim := { program := "ytejkkfmpjafkmaadoor", sum := "16cb7bf5d9bd91202b3413cde54f35a59167d088b5fd41e21e68a2ed048f2109", func := "tollway/tollwaylaw33.AccountOwners", spec := "accountOwners", inPlace := ["internal/abi.NoEscape", "internal/bytealg.MakeNoZero", "slices.overlaps[tollway/api.Interval]"], unfollowed := true, recurses := true, named := ["unicode/utf8.first", "unicode/utf8.acceptRanges"], plainKeys := false, apart := false, laid := [("unicode/utf8.acceptRanges", laid_unicode_utf8_acceptRanges), ("unicode/utf8.first", laid_unicode_utf8_first)], narrowed := true }
def AccountOwnersUptoSaid : Prop := accountOwnersUptoRow.holds Tryd.pinned (OpenSpec.upto accountOwnersSpec)

/-- 'tollwaylaw33.AccountUnlinks', WHERE WHAT IT READS IS OF BULK AT MOST 1048576: true; the input reads as it did. -/
def accountUnlinksUptoRow : OpenClaim := { program := "ytejkkfmpjafkmaadoor", sum := "16cb7bf5d9bd91202b3413cde54f35a59167d088b5fd41e21e68a2ed048f2109", func := "tollway/tollwaylaw33.AccountUnlinks", spec := "accountUnlinks", inPlace := ["internal/abi.NoEscape", "internal/bytealg.MakeNoZero", "slices.overlaps[tollway/api.Interval]"], unfollowed := true, recurses := true, named := ["unicode/utf8.first", "unicode/utf8.acceptRanges"], plainKeys := false, apart := false, laid := [("unicode/utf8.acceptRanges", laid_unicode_utf8_acceptRanges), ("unicode/utf8.first", laid_unicode_utf8_first)], narrowed := true }
def AccountUnlinksUptoSaid : Prop := accountUnlinksUptoRow.holds Tryd.pinned (OpenSpec.upto accountUnlinksSpec)

/-- 'tollwaylaw33.AccountOne', WHERE WHAT IT READS IS OF BULK AT MOST 1048576: true; the input reads as it did. -/
def accountOneUptoRow : OpenClaim := { program := "ytejkkfmpjafkmaadoor", sum := "16cb7bf5d9bd91202b3413cde54f35a59167d088b5fd41e21e68a2ed048f2109", func := "tollway/tollwaylaw33.AccountOne", spec := "accountOne", inPlace := ["internal/abi.NoEscape", "internal/bytealg.MakeNoZero", "slices.overlaps[tollway/api.Interval]"], unfollowed := true, recurses := true, named := ["unicode/utf8.first", "unicode/utf8.acceptRanges"], plainKeys := false, apart := false, laid := [("unicode/utf8.acceptRanges", laid_unicode_utf8_acceptRanges), ("unicode/utf8.first", laid_unicode_utf8_first)], narrowed := true }
def AccountOneUptoSaid : Prop := accountOneUptoRow.holds Tryd.pinned (OpenSpec.upto accountOneSpec)

/-- 'tollwaylaw33.AccountMoves', WHERE WHAT IT READS IS OF BULK AT MOST 1048576: true; the input reads as it did. -/
def accountMovesUptoRow : OpenClaim := { program := "ytejkkfmpjafkmaadoor", sum := "16cb7bf5d9bd91202b3413cde54f35a59167d088b5fd41e21e68a2ed048f2109", func := "tollway/tollwaylaw33.AccountMoves", spec := "accountMoves", inPlace := ["internal/abi.NoEscape", "internal/bytealg.MakeNoZero", "slices.overlaps[tollway/api.Interval]"], unfollowed := true, recurses := true, named := ["unicode/utf8.first", "unicode/utf8.acceptRanges"], plainKeys := false, apart := false, laid := [("unicode/utf8.acceptRanges", laid_unicode_utf8_acceptRanges), ("unicode/utf8.first", laid_unicode_utf8_first)], narrowed := true }
def AccountMovesUptoSaid : Prop := accountMovesUptoRow.holds Tryd.pinned (OpenSpec.upto accountMovesSpec)

end Rows
end Go.Proofs.YtejkkfmpjafkmaaDoor
