/- What the listed variables give. Condition: they read as the text lays them. -/
import Derived.Lib.LaidTab
import Derived.Stop.LaidErr
import Derived.MakeChecks
import Derived.Test.YtaapmifdglaehaaDoorRows
import Derived.Test.YtaapmifdglaehaaDoorKk
set_option linter.unusedSimpArgs false
set_option linter.unusedVariables false
namespace Go.Proofs.YtaapmifdglaehaaDoor.Wk
open Go Go.RowKit Go.Proofs.YtaapmifdglaehaaDoor.Av
theorem of_laid {W : World} (h : laidMetH Tryd.prog [("tollway/clock.monthDays", Rows.laid_tollway_clock_monthDays)] W) : KK W (UA W) := by
  rw [MakeChecks.laidMetH_plain _ _ _ (by kernel_rfl)] at h
  have h2 := h
  have e : (Rows.laid_tollway_clock_monthDays : DataW Unit) = Lib.tabData .i64 [31, 28, 31, 30, 31, 30, 31, 31, 30, 31, 30, 31] := by kernel_rfl
  rw [e] at h2
  have hT := Lib.tabIs_of_head (show Tryd.prog.globalNamed "tollway/clock.monthDays" = some 0 by kernel_rfl) (show (Tryd.prog.globals[0]?).map (·.type) = some 160 by kernel_rfl) Tryd.underlying160 Tryd.underlying3 (by kernel_rfl) (by kernel_rfl) h2
  have key : ∀ i, i < 12 → W.cell? ⟨0, i, none⟩ = some (.int .i64 (Go.Proofs.YtaapmifdglaehaaDoor.Cm.md i)) := by
    intro i hi
    exact Lib.TabIs.cell hT (by kernel_rfl) i (by simpa using hi)
  exact ⟨World.block_lt_of_cell? _ _ (key 0 (by omega)), key⟩

end Go.Proofs.YtaapmifdglaehaaDoor.Wk
