/- What the listed variables give. Condition: they read as the text lays them. -/
import Derived.Lib.LaidTab
import Derived.Stop.LaidErr
import Derived.MakeChecks
import Derived.Shelf.Strings.MapGrows
import Derived.Lib.LaidU8
import Derived.Test.YtaoopadfijkbcaaGreatDoorRows
import Derived.Test.YtaoopadfijkbcaaGreatDoorB2
set_option linter.unusedSimpArgs false
set_option linter.unusedVariables false
namespace Go.Proofs.YtaoopadfijkbcaaGreatDoor.Wk
open Go Go.RowKit Go.Shelf Go.Lib Go.Proofs.YtaoopadfijkbcaaGreatDoor.Pm Go.Proofs.YtaoopadfijkbcaaGreatDoor.Av
theorem of_laid {W : World} (h : laidMetH Tryz.prog [("math/bits.deBruijn32tab", (Rows.laid_math_bits_deBruijn32tab : DataW Unit)), ("math/bits.deBruijn64tab", (Rows.laid_math_bits_deBruijn64tab : DataW Unit)), ("internal/strconv.uint64pow10", (Rows.laid_internal_strconv_uint64pow10 : DataW Unit)), ("unicode/utf8.acceptRanges", (Rows.laid_unicode_utf8_acceptRanges : DataW Unit)), ("unicode/utf8.first", (Rows.laid_unicode_utf8_first : DataW Unit))] W) : K2 W (UA W) := by
  rw [MakeChecks.laidMetH_plain _ _ _ (by kernel_rfl)] at h
  have e3 : (Rows.laid_unicode_utf8_first : DataW Unit) = firstData := by kernel_rfl
  have e4 : (Rows.laid_unicode_utf8_acceptRanges : DataW Unit) = acceptData := by kernel_rfl
  have e5 : (Rows.laid_internal_strconv_uint64pow10 : DataW Unit) = Lib.tabData .u64 Lib.pow10Tab := by kernel_rfl
  rw [e3, e4, e5] at h
  have e6 : (Lib.tabData .u64 Lib.pow10Tab : DataW Unit) = Lib.tabData .u64 pwL := by kernel_rfl
  have h2 := h.tail.tail
  have hT0 := Lib.tabIs_of_head (show Tryz.prog.globalNamed "internal/strconv.uint64pow10" = some 3 by kernel_rfl) (show (Tryz.prog.globals[3]?).map (·.type) = some 229 by kernel_rfl) Tryz.underlying229 Tryz.underlying190 (by kernel_rfl) (by kernel_rfl) h2
  have h3 := h2
  rw [e6] at h3
  have hT := Lib.tabIs_of_head (show Tryz.prog.globalNamed "internal/strconv.uint64pow10" = some 3 by kernel_rfl) (show (Tryz.prog.globals[3]?).map (·.type) = some 229 by kernel_rfl) Tryz.underlying229 Tryz.underlying190 (by kernel_rfl) (by kernel_rfl) h3
  have key : ∀ i, i < 20 → W.cell? ⟨3, i, none⟩ = some (.int .u64 (pwL.getD i 0)) := fun i hi => Lib.TabIs.cell hT (by kernel_rfl) i (by simpa [pwL] using hi)
  exact ⟨⟨utf8Tabs_of_reads { Tryz.laysMap with } ⟨by kernel_rfl, by kernel_rfl, by kernel_rfl, by kernel_rfl, by kernel_rfl, by kernel_rfl, by kernel_rfl⟩ (Lib.laidMet.reads h (.tail _ (.tail _ (.tail _ (.tail _ (.head _)))))) (Lib.laidMet.reads h (.tail _ (.tail _ (.tail _ (.head _))))),
    hT0⟩, World.block_lt_of_cell? _ _ (key 0 (by omega)), key⟩

end Go.Proofs.YtaoopadfijkbcaaGreatDoor.Wk
