/- What the listed variables give. Condition: they read as the text lays them. -/
import Derived.Lib.LaidTab
import Derived.Stop.LaidErr
import Derived.MakeChecks
import Derived.Test.YtglhonnmppclpaaDoorRows
import Derived.Test.YtglhonnmppclpaaDoorB2
set_option linter.unusedSimpArgs false
set_option linter.unusedVariables false
namespace Go.Proofs.YtglhonnmppclpaaDoor.Wk
open Go Go.RowKit Go.Proofs.YtglhonnmppclpaaDoor.Av

theorem strs_of_tab {H : Type} {enc : TypeId × Value → H} {P : Program} {w : World} {base : Nat} {sp : Nat → Bool} {held : Bool} {fuel : Nat} {t e : TypeId} {n : Nat} {cs : List Value} {ss : List (List UInt8)} {p : List MemPlace}
    (ht : P.underlying t = some (.array n e)) (he : P.underlying e = some .string) (hce : P.cellsOf e = 1)
    (h : DataW.trod enc P w base sp held fuel t cs = some (.agg (ss.map fun s => .lit (.string s)), p)) : ∀ (i : Nat) (s : List UInt8), ss[i]? = some s → cs[i]? = some (Value.string ⟨s.toArray⟩) := by
  cases fuel with
  | zero => simp [DataW.trod] at h
  | succ fuel =>
    simp only [DataW.trod, ht, hce, Nat.mul_one] at h
    split at h
    · rename_i hl
      obtain ⟨xs, hm, hx⟩ := Option.map_eq_some_iff.1 h
      have hxs : xs.map (·.1) = ss.map fun s => (DataW.lit (.string s) : DataW H) := by
        have := congrArg Prod.fst hx
        simpa using this
      have hxl : xs.length = n := by simpa using Lib.mapM_length hm
      have hzl : ss.length = n := by
        have := congrArg List.length hxs
        simp at this
        omega
      intro i s hs
      have hi : i < n := by
        have := (List.getElem?_eq_some_iff.1 hs).1
        omega
      obtain ⟨b, hb, hf⟩ := Lib.mapM_at hm i i (by simp [hi])
      obtain ⟨z, hc, rfl, _⟩ := DataW.trod_string he hf
      have h1 : cs[i]? = some (.string z) := by
        have := congrArg (·[0]?) hc
        simpa [List.getElem?_take, List.getElem?_drop] using this
      have h2 : (xs.map (·.1))[i]? = some (DataW.lit (.string z.data.toList) : DataW H) := by simp [hb]
      rw [hxs] at h2
      simp only [List.getElem?_map, hs, Option.map_some, Option.some.injEq, DataW.lit.injEq, Lit.string.injEq] at h2
      rw [h1, h2]
    · cases h
theorem of_laid {W : World} (h : laidMetH Tryd.prog [("math/bits.deBruijn32tab", Rows.laid_math_bits_deBruijn32tab), ("math/bits.deBruijn64tab", Rows.laid_math_bits_deBruijn64tab), ("internal/strconv.uint64pow10", Rows.laid_internal_strconv_uint64pow10), ("tollway/clock.monthDays", Rows.laid_tollway_clock_monthDays), ("tollway/report.stages", Rows.laid_tollway_report_stages), ("tollway/report.appeals", Rows.laid_tollway_report_appeals)] W) : KK W (UA W) := by
  rw [MakeChecks.laidMetH_plain _ _ _ (by kernel_rfl)] at h
  refine ⟨⟨?_, ?_⟩, ?_, ?_⟩
  · have h3 := h.tail.tail.tail.tail
    obtain ⟨ps, ⟨g', t', cs, fuel, p, q, hg', ht', hvar, hd, _, _⟩, _⟩ := h3
    obtain rfl := Option.some.inj ((show Tryd.prog.globalNamed "tollway/report.stages" = some 0 by kernel_rfl).symm.trans hg')
    obtain rfl := Option.some.inj ((show (Tryd.prog.globals[0]?).map (·.type) = some 148 by kernel_rfl).symm.trans ht')
    have hc := strs_of_tab (ss := [[110, 101, 119], [110, 111, 116, 105, 99, 101], [114, 101, 109, 105, 110, 100], [112, 101, 110, 97, 108, 116, 121], [99, 111, 117, 114, 116], [112, 97, 105, 100], [119, 97, 105, 118, 101, 100], [98, 97, 114, 114, 101, 100]]) Tryd.underlying148 Tryd.underlying9 (by kernel_rfl) hd
    have key : ∀ (j : Nat) (s : ByteArray), stw[j]? = some s → ∃ u, W.cell? ⟨0, 0 + j, none⟩ = some u ∧ 0 + j < UA W 0 ∧ u.oneCell' = true ∧ Rd W (UA W) u (.fl (.string s)) := by
      intro j s hs
      have hs' : ([[110, 101, 119], [110, 111, 116, 105, 99, 101], [114, 101, 109, 105, 110, 100], [112, 101, 110, 97, 108, 116, 121], [99, 111, 117, 114, 116], [112, 97, 105, 100], [119, 97, 105, 118, 101, 100], [98, 97, 114, 114, 101, 100]] : List (List UInt8))[j]? = some s.data.toList := by
        have e : ([[110, 101, 119], [110, 111, 116, 105, 99, 101], [114, 101, 109, 105, 110, 100], [112, 101, 110, 97, 108, 116, 121], [99, 111, 117, 114, 116], [112, 97, 105, 100], [119, 97, 105, 118, 101, 100], [98, 97, 114, 114, 101, 100]] : List (List UInt8)) = stw.map fun s => s.data.toList := rfl
        rw [e, List.getElem?_map, hs]; rfl
      have h1 : W.cell? ⟨0, 0 + j, none⟩ = some (.string s) := by
        rw [World.var?_cell hg' hvar, Nat.zero_add]
        have := hc j _ hs'
        simpa using this
      exact ⟨_, h1, ua_lt h1, rfl, .fl _⟩
    refine elM fun j x hx => ?_
    unfold GA at hx
    rw [List.getElem?_map] at hx
    obtain ⟨s, hs, rfl⟩ := Option.map_eq_some_iff.1 hx
    exact key j s hs
  · have h3 := h.tail.tail.tail.tail.tail
    obtain ⟨ps, ⟨g', t', cs, fuel, p, q, hg', ht', hvar, hd, _, _⟩, _⟩ := h3
    obtain rfl := Option.some.inj ((show Tryd.prog.globalNamed "tollway/report.appeals" = some 1 by kernel_rfl).symm.trans hg')
    obtain rfl := Option.some.inj ((show (Tryd.prog.globals[1]?).map (·.type) = some 149 by kernel_rfl).symm.trans ht')
    have hc := strs_of_tab (ss := [[102, 105, 108, 101, 100], [117, 112, 104, 101, 108, 100], [100, 101, 110, 105, 101, 100]]) Tryd.underlying149 Tryd.underlying9 (by kernel_rfl) hd
    have key : ∀ (j : Nat) (s : ByteArray), apw[j]? = some s → ∃ u, W.cell? ⟨1, 0 + j, none⟩ = some u ∧ 0 + j < UA W 1 ∧ u.oneCell' = true ∧ Rd W (UA W) u (.fl (.string s)) := by
      intro j s hs
      have hs' : ([[102, 105, 108, 101, 100], [117, 112, 104, 101, 108, 100], [100, 101, 110, 105, 101, 100]] : List (List UInt8))[j]? = some s.data.toList := by
        have e : ([[102, 105, 108, 101, 100], [117, 112, 104, 101, 108, 100], [100, 101, 110, 105, 101, 100]] : List (List UInt8)) = apw.map fun s => s.data.toList := rfl
        rw [e, List.getElem?_map, hs]; rfl
      have h1 : W.cell? ⟨1, 0 + j, none⟩ = some (.string s) := by
        rw [World.var?_cell hg' hvar, Nat.zero_add]
        have := hc j _ hs'
        simpa using this
      exact ⟨_, h1, ua_lt h1, rfl, .fl _⟩
    refine elM fun j x hx => ?_
    unfold GB at hx
    rw [List.getElem?_map] at hx
    obtain ⟨s, hs, rfl⟩ := Option.map_eq_some_iff.1 hx
    exact key j s hs
  · have h2 := h.tail.tail
    have e : (Rows.laid_internal_strconv_uint64pow10 : DataW Unit) = Lib.tabData .u64 Lib.pow10Tab := by kernel_rfl
    rw [e] at h2
    exact Lib.tabIs_of_head (show Tryd.prog.globalNamed "internal/strconv.uint64pow10" = some 3 by kernel_rfl) (show (Tryd.prog.globals[3]?).map (·.type) = some 172 by kernel_rfl) Tryd.underlying172 Tryd.underlying134 (by kernel_rfl) (by kernel_rfl) h2
  · have h2 := h.tail.tail.tail
    have e : (Rows.laid_tollway_clock_monthDays : DataW Unit) = Lib.tabData .i64 [31, 28, 31, 30, 31, 30, 31, 31, 30, 31, 30, 31] := by kernel_rfl
    rw [e] at h2
    have hT := Lib.tabIs_of_head (show Tryd.prog.globalNamed "tollway/clock.monthDays" = some 2 by kernel_rfl) (show (Tryd.prog.globals[2]?).map (·.type) = some 165 by kernel_rfl) Tryd.underlying165 Tryd.underlying3 (by kernel_rfl) (by kernel_rfl) h2
    have key : ∀ i, i < 12 → W.cell? ⟨2, i, none⟩ = some (.int .i64 (Go.Proofs.YtglhonnmppclpaaDoor.Cm.md i)) := by
      intro i hi
      exact Lib.TabIs.cell hT (by kernel_rfl) i (by simpa using hi)
    exact ⟨World.block_lt_of_cell? _ _ (key 0 (by omega)), key⟩

end Go.Proofs.YtglhonnmppclpaaDoor.Wk
