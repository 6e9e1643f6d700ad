/- What the listed variables give. Condition: they read as the text lays them. -/
import Derived.Lib.LaidTab
import Derived.Stop.LaidErr
import Derived.MakeChecks
import Derived.Shelf.Strings.MapGrows
import Derived.Lib.LaidU8
import Derived.Test.YtgelodnkfajgjaaGreatDoorRows
import Derived.Test.YtgelodnkfajgjaaGreatDoorP1
set_option linter.unusedSimpArgs false
set_option linter.unusedVariables false
namespace Go.Proofs.YtgelodnkfajgjaaGreatDoor.Wk
open Go Go.RowKit Go.Shelf Go.Lib Go.Proofs.YtgelodnkfajgjaaGreatDoor.Pm Go.Proofs.YtgelodnkfajgjaaGreatDoor.Av
theorem of_laid {W : World} (h : laidMetH Tryz.prog [("unicode/utf8.acceptRanges", (Rows.laid_unicode_utf8_acceptRanges : DataW Unit)), ("unicode/utf8.first", (Rows.laid_unicode_utf8_first : DataW Unit))] W) : KK W (UA W) := by
  rw [MakeChecks.laidMetH_plain _ _ _ (by kernel_rfl)] at h
  have e3 : (Rows.laid_unicode_utf8_first : DataW Unit) = firstData := by kernel_rfl
  have e4 : (Rows.laid_unicode_utf8_acceptRanges : DataW Unit) = acceptData := by kernel_rfl
  rw [e3, e4] at h
  exact utf8Tabs_of_reads { Tryz.laysMap with } ⟨by kernel_rfl, by kernel_rfl, by kernel_rfl, by kernel_rfl, by kernel_rfl, by kernel_rfl, by kernel_rfl⟩ (Lib.laidMet.reads h (.tail _ (.head _))) (Lib.laidMet.reads h (.head _))

end Go.Proofs.YtgelodnkfajgjaaGreatDoor.Wk
