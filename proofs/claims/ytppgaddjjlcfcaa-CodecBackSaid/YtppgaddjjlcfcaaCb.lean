/- The bytes of a string, in new memory. Condition: none. -/
import Derived.Test.YtppgaddjjlcfcaaWp
import Derived.Lib.ConvBytes
import Derived.Lib.AtoiErrMem
set_option linter.unusedSimpArgs false
set_option linter.unusedVariables false
namespace Go.Proofs.Ytppgaddjjlcfcaa.Wk
open Go.RowKit
open Go.Proofs.Ytppgaddjjlcfcaa.Mt
theorem conv_bytes (s : ByteArray) (w : World) (hs : s.size ≤ 1000000) : ∃ cap W, (convert 9 22 (.string s)).run Try.prog w = .ok (.slice (some ⟨w.heap.size, 0, none⟩) s.size cap) W ∧ Rk .u8 W W.heap.size (some ⟨w.heap.size, 0, none⟩) s.size (bl s) ∧ Below w.heap.size w W := by
  refine ⟨_, _, Lib.run_convert_string_bytes (P := Try.prog) w 9 22 5 s Try.underlying9 Try.underlying22 Try.underlying5, ⟨bl_len s, by omega, fun _ => ⟨w.heap.size, 0, rfl, ?_, fun i hi => ?_⟩, iat_wf (bl_in s)⟩, Lib.bytesWorld_below w 5 s⟩
  · rw [Lib.bytesWorld_size]; omega
  · rw [Nat.zero_add, Lib.bytesWorld_cell w 5 s i hi]
    have h := bl_at hi
    have hd : i < s.data.toList.length := by simpa using hi
    have e : s.data.toList.getD i 0 = s[i]'hi := by
      rw [List.getD_eq_getElem?_getD, List.getElem?_eq_getElem hd]
      simp
      rfl
    rw [e, h]
end Go.Proofs.Ytppgaddjjlcfcaa.Wk
