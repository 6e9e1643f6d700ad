/- What the listed variables give. Condition: they read as the text lays them. -/
import Derived.Lib.LaidTab
import Derived.Stop.LaidErr
import Derived.MakeChecks
import Derived.Test.YtafookkclkgmlaaGreatDoorRows
import Derived.Test.YtafookkclkgmlaaGreatDoorKk
set_option linter.unusedSimpArgs false
set_option linter.unusedVariables false
namespace Go.Proofs.YtafookkclkgmlaaGreatDoor.Wk
open Go Go.RowKit Go.Proofs.YtafookkclkgmlaaGreatDoor.Av
theorem of_laid {W : World} (h : laidMetH Tryz.prog [("math/bits.deBruijn32tab", Rows.laid_math_bits_deBruijn32tab), ("math/bits.deBruijn64tab", Rows.laid_math_bits_deBruijn64tab), ("internal/strconv.uint64pow10", Rows.laid_internal_strconv_uint64pow10), ("unicode/utf8.acceptRanges", Rows.laid_unicode_utf8_acceptRanges), ("unicode/utf8.first", Rows.laid_unicode_utf8_first)] W) : KK W (UA W) := by
  rw [MakeChecks.laidMetH_plain _ _ _ (by kernel_rfl)] at h
  have h2 := h.tail.tail
  have e : (Rows.laid_internal_strconv_uint64pow10 : DataW Unit) = Lib.tabData .u64 pwL := by kernel_rfl
  rw [e] at h2
  have hT := Lib.tabIs_of_head (show Tryz.prog.globalNamed "internal/strconv.uint64pow10" = some 3 by kernel_rfl) (show (Tryz.prog.globals[3]?).map (·.type) = some 167 by kernel_rfl) Tryz.underlying167 Tryz.underlying133 (by kernel_rfl) (by kernel_rfl) h2
  have key : ∀ i, i < 20 → W.cell? ⟨3, i, none⟩ = some (.int .u64 (pwL.getD i 0)) := fun i hi => Lib.TabIs.cell hT (by kernel_rfl) i (by simpa [pwL] using hi)
  exact ⟨World.block_lt_of_cell? _ _ (key 0 (by omega)), key⟩

end Go.Proofs.YtafookkclkgmlaaGreatDoor.Wk
