/-
  NARROWER THAN 'FOR EVERY INPUT', by the rows' own cells (each row's printed sentence says how): TraceDetections: laid · TracePassages: laid · TraceCharges: laid · TracePrints: laid.
  DERIVED. THE GIVEN ROWS OF THIS SEAT. 4 by the template 'for every input the law returns true; each argument reads behind the call as it read before'; 0 by the template 'total and deterministic' (their statements: YtgfbgkoifcacdaaDoorTotals.lean).
  GIVEN WITH THE SEED: the statements are not yours to turn. If you find one false, say at which input.
  Laid BY PROGRAM, IN A SANDBOX (cutbox-rows.mjs): the forced cells as the released guide's own fill.sh prints them over the translation 11bf4b240b891c4c… (all of the seat's roots in one cut). By AI agents, Wed Nov 11 2026. No macro, syntax, notation, axiom, sorry.
-/
import Derived.Test.YtgfbgkoifcacdaaDoorChecked
import GoSem.Claim
import GoSem.ClaimJoined
import GoSem.ClaimMapViews
import Derived.JoinedTies
import Derived.KernelRfl
namespace Go.Proofs.YtgfbgkoifcacdaaDoor
/- THE CELL 'sum', in the pinned program and in every row, IS THE sha256 OF THE DUMP (.gsa) THAT YtgfbgkoifcacdaaDoorProg.lean LOADS. Nothing in Lean hashes anything: it is a label: what it is worth is what the hold of that sum in a sandbox is worth. -/
noncomputable def Tryd.pinned : Pinned := { name := "ytgfbgkoifcacdaadoor", sum := "11bf4b240b891c4cee2184e6a1b13bc202a47bda7be36d5d8b4e706e00076afb", checked := Tryd.checked }
namespace Rows
def none {H : Type} : Left H := { results := [], args := [] }

/- WHAT THE LISTED PACKAGE-LEVEL VARIABLES READ AS WHEN THE CALL BEGINS. Each datum BY PROGRAM (the guide's laid-datum.mjs) off the statement by which the dump's own 'gosem.cut.vars' lays the variable. In a bare row this is a premise. The card (YtgfbgkoifcacdaaDoorCards.lean) ties it to the program's text. -/
def laid_math_bits_deBruijn32tab {H : Type} : DataW H := .agg [.lit (.int .u8 0), .lit (.int .u8 1), .lit (.int .u8 28), .lit (.int .u8 2), .lit (.int .u8 29), .lit (.int .u8 14), .lit (.int .u8 24), .lit (.int .u8 3), .lit (.int .u8 30), .lit (.int .u8 22), .lit (.int .u8 20), .lit (.int .u8 15), .lit (.int .u8 25), .lit (.int .u8 17), .lit (.int .u8 4), .lit (.int .u8 8), .lit (.int .u8 31), .lit (.int .u8 27), .lit (.int .u8 13), .lit (.int .u8 23), .lit (.int .u8 21), .lit (.int .u8 19), .lit (.int .u8 16), .lit (.int .u8 7), .lit (.int .u8 26), .lit (.int .u8 12), .lit (.int .u8 18), .lit (.int .u8 6), .lit (.int .u8 11), .lit (.int .u8 5), .lit (.int .u8 10), .lit (.int .u8 9)]
def laid_math_bits_deBruijn64tab {H : Type} : DataW H := .agg [.lit (.int .u8 0), .lit (.int .u8 1), .lit (.int .u8 56), .lit (.int .u8 2), .lit (.int .u8 57), .lit (.int .u8 49), .lit (.int .u8 28), .lit (.int .u8 3), .lit (.int .u8 61), .lit (.int .u8 58), .lit (.int .u8 42), .lit (.int .u8 50), .lit (.int .u8 38), .lit (.int .u8 29), .lit (.int .u8 17), .lit (.int .u8 4), .lit (.int .u8 62), .lit (.int .u8 47), .lit (.int .u8 59), .lit (.int .u8 36), .lit (.int .u8 45), .lit (.int .u8 43), .lit (.int .u8 51), .lit (.int .u8 22), .lit (.int .u8 53), .lit (.int .u8 39), .lit (.int .u8 33), .lit (.int .u8 30), .lit (.int .u8 24), .lit (.int .u8 18), .lit (.int .u8 12), .lit (.int .u8 5), .lit (.int .u8 63), .lit (.int .u8 55), .lit (.int .u8 48), .lit (.int .u8 27), .lit (.int .u8 60), .lit (.int .u8 41), .lit (.int .u8 37), .lit (.int .u8 16), .lit (.int .u8 46), .lit (.int .u8 35), .lit (.int .u8 44), .lit (.int .u8 21), .lit (.int .u8 52), .lit (.int .u8 32), .lit (.int .u8 23), .lit (.int .u8 11), .lit (.int .u8 54), .lit (.int .u8 26), .lit (.int .u8 40), .lit (.int .u8 15), .lit (.int .u8 34), .lit (.int .u8 20), .lit (.int .u8 31), .lit (.int .u8 10), .lit (.int .u8 25), .lit (.int .u8 14), .lit (.int .u8 19), .lit (.int .u8 9), .lit (.int .u8 13), .lit (.int .u8 8), .lit (.int .u8 7), .lit (.int .u8 6)]
def laid_internal_strconv_uint64pow10 {H : Type} : DataW H := .agg [.lit (.int .u64 1), .lit (.int .u64 10), .lit (.int .u64 100), .lit (.int .u64 1000), .lit (.int .u64 10000), .lit (.int .u64 100000), .lit (.int .u64 1000000), .lit (.int .u64 10000000), .lit (.int .u64 100000000), .lit (.int .u64 1000000000), .lit (.int .u64 10000000000), .lit (.int .u64 100000000000), .lit (.int .u64 1000000000000), .lit (.int .u64 10000000000000), .lit (.int .u64 100000000000000), .lit (.int .u64 1000000000000000), .lit (.int .u64 10000000000000000), .lit (.int .u64 100000000000000000), .lit (.int .u64 1000000000000000000), .lit (.int .u64 10000000000000000000)]
def laid_tollway_trace_words {H : Type} : DataW H := .agg [.lit (.string []), .lit (.string [117, 110, 107, 110, 111, 119, 110, 32, 100, 101, 118, 105, 99, 101]), .lit (.string [105, 110, 118, 97, 108, 105, 100, 32, 116, 105, 109, 101]), .lit (.string [109, 97, 108, 102, 111, 114, 109, 101, 100, 32, 114, 101, 97, 100, 105, 110, 103]), .lit (.string [99, 111, 110, 102, 108, 105, 99, 116, 105, 110, 103, 32, 114, 101, 112, 111, 114, 116, 115]), .lit (.string [111, 117, 116, 32, 111, 102, 32, 115, 101, 114, 118, 105, 99, 101]), .lit (.string [117, 110, 97, 115, 115, 105, 103, 110, 101, 100, 32, 97, 120, 108, 101, 115]), .lit (.string [108, 111, 119, 32, 99, 111, 110, 102, 105, 100, 101, 110, 99, 101]), .lit (.string [116, 111, 111, 32, 109, 97, 110, 121, 32, 100, 101, 116, 101, 99, 116, 105, 111, 110, 115]), .lit (.string [101, 108, 115, 101, 119, 104, 101, 114, 101, 32, 97, 116, 32, 116, 104, 97, 116, 32, 116, 105, 109, 101]), .lit (.string [110, 111, 32, 101, 110, 116, 114, 121]), .lit (.string [110, 111, 32, 101, 120, 105, 116]), .lit (.string [99, 104, 101, 99, 107, 32, 112, 111, 105, 110, 116, 115, 32, 97, 108, 111, 110, 101]), .lit (.string [110, 111, 32, 114, 97, 116, 101]), .lit (.string [119, 97, 105, 118, 101, 100, 32, 102, 111, 114, 32, 97, 110, 32, 111, 117, 116, 97, 103, 101]), .lit (.string [101, 120, 101, 109, 112, 116]), .lit (.string [99, 97, 112, 112, 101, 100]), .lit (.string [110, 111, 32, 97, 99, 99, 111, 117, 110, 116]), .lit (.string [97, 108, 114, 101, 97, 100, 121, 32, 112, 97, 105, 100])]

/-- 'tollwaylaw52.TraceDetections': WHATEVER THE INPUT: true; the input reads as it did. -/
def traceDetectionsSpec : ChangeSpec := { name := "traceDetections", fn := fun _ => fun
  | [d1, d2] => { results := [.lit (.bool true)], args := [d1, d2] }
  | _ => none }
def traceDetectionsRow : OpenClaim := { program := "ytgfbgkoifcacdaadoor", sum := "11bf4b240b891c4cee2184e6a1b13bc202a47bda7be36d5d8b4e706e00076afb", func := "tollway/tollwaylaw52.TraceDetections", spec := "traceDetections", inPlace := ["internal/abi.NoEscape", "internal/bytealg.MakeNoZero"], unfollowed := true, recurses := true, named := ["internal/strconv.uint64pow10", "math/bits.deBruijn32tab", "math/bits.deBruijn64tab", "tollway/trace.words"], apart := false, laid := [("math/bits.deBruijn32tab", laid_math_bits_deBruijn32tab), ("math/bits.deBruijn64tab", laid_math_bits_deBruijn64tab), ("internal/strconv.uint64pow10", laid_internal_strconv_uint64pow10), ("tollway/trace.words", laid_tollway_trace_words)] }
def TraceDetectionsSaid : Prop := traceDetectionsRow.holds Tryd.pinned (OpenSpec.ofChange traceDetectionsSpec)

/-- ITS FALSE NEIGHBOUR: 'it returns false'. Refute it at one input. -/
def traceDetectionsWrong : ChangeSpec := { name := "traceDetections", fn := fun _ => fun
  | [d1, d2] => { results := [.lit (.bool false)], args := [d1, d2] }
  | _ => none }
def TraceDetectionsWrongFalsely : Prop := traceDetectionsRow.holds Tryd.pinned (OpenSpec.ofChange traceDetectionsWrong)

/-- 'tollwaylaw52.TracePassages': WHATEVER THE INPUT: true; the input reads as it did. -/
def tracePassagesSpec : ChangeSpec := { name := "tracePassages", fn := fun _ => fun
  | [d1, d2] => { results := [.lit (.bool true)], args := [d1, d2] }
  | _ => none }
def tracePassagesRow : OpenClaim := { program := "ytgfbgkoifcacdaadoor", sum := "11bf4b240b891c4cee2184e6a1b13bc202a47bda7be36d5d8b4e706e00076afb", func := "tollway/tollwaylaw52.TracePassages", spec := "tracePassages", inPlace := ["internal/abi.NoEscape", "internal/bytealg.MakeNoZero"], unfollowed := true, recurses := true, named := ["internal/strconv.uint64pow10", "math/bits.deBruijn32tab", "math/bits.deBruijn64tab", "tollway/trace.words"], apart := false, laid := [("math/bits.deBruijn32tab", laid_math_bits_deBruijn32tab), ("math/bits.deBruijn64tab", laid_math_bits_deBruijn64tab), ("internal/strconv.uint64pow10", laid_internal_strconv_uint64pow10), ("tollway/trace.words", laid_tollway_trace_words)] }
def TracePassagesSaid : Prop := tracePassagesRow.holds Tryd.pinned (OpenSpec.ofChange tracePassagesSpec)

/-- ITS FALSE NEIGHBOUR: 'it returns false'. Refute it at one input. -/
def tracePassagesWrong : ChangeSpec := { name := "tracePassages", fn := fun _ => fun
  | [d1, d2] => { results := [.lit (.bool false)], args := [d1, d2] }
  | _ => none }
def TracePassagesWrongFalsely : Prop := tracePassagesRow.holds Tryd.pinned (OpenSpec.ofChange tracePassagesWrong)

/-- 'tollwaylaw52.TraceCharges': WHATEVER THE INPUT: true; the input reads as it did. -/
def traceChargesSpec : ChangeSpec := { name := "traceCharges", fn := fun _ => fun
  | [d1, d2] => { results := [.lit (.bool true)], args := [d1, d2] }
  | _ => none }
def traceChargesRow : OpenClaim := { program := "ytgfbgkoifcacdaadoor", sum := "11bf4b240b891c4cee2184e6a1b13bc202a47bda7be36d5d8b4e706e00076afb", func := "tollway/tollwaylaw52.TraceCharges", spec := "traceCharges", inPlace := ["internal/abi.NoEscape", "internal/bytealg.MakeNoZero"], unfollowed := true, recurses := true, named := ["internal/strconv.uint64pow10", "math/bits.deBruijn32tab", "math/bits.deBruijn64tab", "tollway/trace.words"], apart := false, laid := [("math/bits.deBruijn32tab", laid_math_bits_deBruijn32tab), ("math/bits.deBruijn64tab", laid_math_bits_deBruijn64tab), ("internal/strconv.uint64pow10", laid_internal_strconv_uint64pow10), ("tollway/trace.words", laid_tollway_trace_words)] }
def TraceChargesSaid : Prop := traceChargesRow.holds Tryd.pinned (OpenSpec.ofChange traceChargesSpec)

/-- ITS FALSE NEIGHBOUR: 'it returns false'. Refute it at one input. -/
def traceChargesWrong : ChangeSpec := { name := "traceCharges", fn := fun _ => fun
  | [d1, d2] => { results := [.lit (.bool false)], args := [d1, d2] }
  | _ => none }
def TraceChargesWrongFalsely : Prop := traceChargesRow.holds Tryd.pinned (OpenSpec.ofChange traceChargesWrong)

/-- 'tollwaylaw52.TracePrints': WHATEVER THE INPUT: true; the input reads as it did. -/
def tracePrintsSpec : ChangeSpec := { name := "tracePrints", fn := fun _ => fun
  | [d1, d2] => { results := [.lit (.bool true)], args := [d1, d2] }
  | _ => none }
def tracePrintsRow : OpenClaim := { program := "ytgfbgkoifcacdaadoor", sum := "11bf4b240b891c4cee2184e6a1b13bc202a47bda7be36d5d8b4e706e00076afb", func := "tollway/tollwaylaw52.TracePrints", spec := "tracePrints", inPlace := ["internal/abi.NoEscape", "internal/bytealg.MakeNoZero"], unfollowed := true, recurses := true, named := ["internal/strconv.uint64pow10", "math/bits.deBruijn32tab", "math/bits.deBruijn64tab", "tollway/trace.words"], apart := false, laid := [("math/bits.deBruijn32tab", laid_math_bits_deBruijn32tab), ("math/bits.deBruijn64tab", laid_math_bits_deBruijn64tab), ("internal/strconv.uint64pow10", laid_internal_strconv_uint64pow10), ("tollway/trace.words", laid_tollway_trace_words)] }
def TracePrintsSaid : Prop := tracePrintsRow.holds Tryd.pinned (OpenSpec.ofChange tracePrintsSpec)

/-- ITS FALSE NEIGHBOUR: 'it returns false'. Refute it at one input. -/
def tracePrintsWrong : ChangeSpec := { name := "tracePrints", fn := fun _ => fun
  | [d1, d2] => { results := [.lit (.bool false)], args := [d1, d2] }
  | _ => none }
def TracePrintsWrongFalsely : Prop := tracePrintsRow.holds Tryd.pinned (OpenSpec.ofChange tracePrintsWrong)

/- THE SECOND FORM. 'bulk': how many values and letters a reading holds, each counted each time it is reached (what is shared counts as often as it is met; a slice's spare places count too). A statement '..UptoSaid' is the law's where the arguments, and the package variables that the reading takes, are together of bulk at most 1048576: NARROWER than '..Said'. Prove '..Said' where nothing that the law and all that it calls make is longer than what came in: it says more and counts as full. Else prove '..UptoSaid'. A law counts once. -/
mutual
def uptoBulk {H : Type} : DataW H → Nat
  | .lit (.string bytes) => bytes.length + 1
  | .lit _ => 1
  | .nil => 1
  | .ptr d => uptoBulk d + 1
  | .slice elems spare => uptoBulkAll elems + uptoBulkAll spare + 1
  | .agg parts => uptoBulkAll parts + 1
  | .iface _ d => uptoBulk d + 1
  | .map entries => uptoBulkEntries entries + 1
  | .held _ => 1
def uptoBulkAll {H : Type} : List (DataW H) → Nat
  | [] => 0
  | d :: r => uptoBulk d + uptoBulkAll r
def uptoBulkEntries {H : Type} : List (Lit × DataW H) → Nat
  | [] => 0
  | x :: r => uptoBulkEntry x + uptoBulkEntries r
def uptoBulkEntry {H : Type} : Lit × DataW H → Nat
  | (.string bytes, d) => bytes.length + uptoBulk d + 1
  | (_, d) => uptoBulk d + 1
 end
def uptoSmall : (H : Type) → List (DataW H) → Bool := fun _ ds => decide (uptoBulkAll ds ≤ 1048576)
def OpenSpec.upto (s : _root_.Go.ChangeSpec) : _root_.Go.OpenSpec := { _root_.Go.OpenSpec.ofChange s with cond := some uptoSmall }

/-- 'tollwaylaw52.TraceDetections', WHERE WHAT IT READS IS OF BULK AT MOST 1048576: true; the input reads as it did. -/
def traceDetectionsUptoRow : OpenClaim := { program := "ytgfbgkoifcacdaadoor", sum := "11bf4b240b891c4cee2184e6a1b13bc202a47bda7be36d5d8b4e706e00076afb", func := "tollway/tollwaylaw52.TraceDetections", spec := "traceDetections", inPlace := ["internal/abi.NoEscape", "internal/bytealg.MakeNoZero"], unfollowed := true, recurses := true, named := ["internal/strconv.uint64pow10", "math/bits.deBruijn32tab", "math/bits.deBruijn64tab", "tollway/trace.words"], apart := false, laid := [("math/bits.deBruijn32tab", laid_math_bits_deBruijn32tab), ("math/bits.deBruijn64tab", laid_math_bits_deBruijn64tab), ("internal/strconv.uint64pow10", laid_internal_strconv_uint64pow10), ("tollway/trace.words", laid_tollway_trace_words)], narrowed := true }
def TraceDetectionsUptoSaid : Prop := traceDetectionsUptoRow.holds Tryd.pinned (OpenSpec.upto traceDetectionsSpec)

/-- 'tollwaylaw52.TracePassages', WHERE WHAT IT READS IS OF BULK AT MOST 1048576: true; the input reads as it did. -/
def tracePassagesUptoRow : OpenClaim := { program := "ytgfbgkoifcacdaadoor", sum := "11bf4b240b891c4cee2184e6a1b13bc202a47bda7be36d5d8b4e706e00076afb", func := "tollway/tollwaylaw52.TracePassages", spec := "tracePassages", inPlace := ["internal/abi.NoEscape", "internal/bytealg.MakeNoZero"], unfollowed := true, recurses := true, named := ["internal/strconv.uint64pow10", "math/bits.deBruijn32tab", "math/bits.deBruijn64tab", "tollway/trace.words"], apart := false, laid := [("math/bits.deBruijn32tab", laid_math_bits_deBruijn32tab), ("math/bits.deBruijn64tab", laid_math_bits_deBruijn64tab), ("internal/strconv.uint64pow10", laid_internal_strconv_uint64pow10), ("tollway/trace.words", laid_tollway_trace_words)], narrowed := true }
def TracePassagesUptoSaid : Prop := tracePassagesUptoRow.holds Tryd.pinned (OpenSpec.upto tracePassagesSpec)

/-- 'tollwaylaw52.TraceCharges', WHERE WHAT IT READS IS OF BULK AT MOST 1048576: true; the input reads as it did. -/
def traceChargesUptoRow : OpenClaim := { program := "ytgfbgkoifcacdaadoor", sum := "11bf4b240b891c4cee2184e6a1b13bc202a47bda7be36d5d8b4e706e00076afb", func := "tollway/tollwaylaw52.TraceCharges", spec := "traceCharges", inPlace := ["internal/abi.NoEscape", "internal/bytealg.MakeNoZero"], unfollowed := true, recurses := true, named := ["internal/strconv.uint64pow10", "math/bits.deBruijn32tab", "math/bits.deBruijn64tab", "tollway/trace.words"], apart := false, laid := [("math/bits.deBruijn32tab", laid_math_bits_deBruijn32tab), ("math/bits.deBruijn64tab", laid_math_bits_deBruijn64tab), ("internal/strconv.uint64pow10", laid_internal_strconv_uint64pow10), ("tollway/trace.words", laid_tollway_trace_words)], narrowed := true }
def TraceChargesUptoSaid : Prop := traceChargesUptoRow.holds Tryd.pinned (OpenSpec.upto traceChargesSpec)

/-- 'tollwaylaw52.TracePrints', WHERE WHAT IT READS IS OF BULK AT MOST 1048576: true; the input reads as it did. -/
def tracePrintsUptoRow : OpenClaim := { program := "ytgfbgkoifcacdaadoor", sum := "11bf4b240b891c4cee2184e6a1b13bc202a47bda7be36d5d8b4e706e00076afb", func := "tollway/tollwaylaw52.TracePrints", spec := "tracePrints", inPlace := ["internal/abi.NoEscape", "internal/bytealg.MakeNoZero"], unfollowed := true, recurses := true, named := ["internal/strconv.uint64pow10", "math/bits.deBruijn32tab", "math/bits.deBruijn64tab", "tollway/trace.words"], apart := false, laid := [("math/bits.deBruijn32tab", laid_math_bits_deBruijn32tab), ("math/bits.deBruijn64tab", laid_math_bits_deBruijn64tab), ("internal/strconv.uint64pow10", laid_internal_strconv_uint64pow10), ("tollway/trace.words", laid_tollway_trace_words)], narrowed := true }
def TracePrintsUptoSaid : Prop := tracePrintsUptoRow.holds Tryd.pinned (OpenSpec.upto tracePrintsSpec)

end Rows
end Go.Proofs.YtgfbgkoifcacdaaDoor
