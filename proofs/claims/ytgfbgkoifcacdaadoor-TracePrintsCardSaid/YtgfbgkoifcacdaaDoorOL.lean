/- What the listed variables give. Condition: they read as the text lays them. -/
import Derived.Lib.LaidTab
import Derived.Stop.LaidErr
import Derived.MakeChecks
import Derived.Test.YtgfbgkoifcacdaaDoorRows
import Derived.Test.YtgfbgkoifcacdaaDoorB7
set_option linter.unusedSimpArgs false
set_option linter.unusedVariables false
namespace Go.Proofs.YtgfbgkoifcacdaaDoor.Wk
open Go Go.RowKit Go.Proofs.YtgfbgkoifcacdaaDoor.Av

theorem strs_of_tab {H : Type} {enc : TypeId × Value → H} {P : Program} {w : World} {base : Nat} {sp : Nat → Bool} {held : Bool} {fuel : Nat} {t e : TypeId} {n : Nat} {cs : List Value} {ss : List (List UInt8)} {p : List MemPlace}
    (ht : P.underlying t = some (.array n e)) (he : P.underlying e = some .string) (hce : P.cellsOf e = 1)
    (h : DataW.trod enc P w base sp held fuel t cs = some (.agg (ss.map fun s => .lit (.string s)), p)) : ∀ (i : Nat) (s : List UInt8), ss[i]? = some s → cs[i]? = some (Value.string ⟨s.toArray⟩) := by
  cases fuel with
  | zero => simp [DataW.trod] at h
  | succ fuel =>
    simp only [DataW.trod, ht, hce, Nat.mul_one] at h
    split at h
    · rename_i hl
      obtain ⟨xs, hm, hx⟩ := Option.map_eq_some_iff.1 h
      have hxs : xs.map (·.1) = ss.map fun s => (DataW.lit (.string s) : DataW H) := by
        have := congrArg Prod.fst hx
        simpa using this
      have hxl : xs.length = n := by simpa using Lib.mapM_length hm
      have hzl : ss.length = n := by
        have := congrArg List.length hxs
        simp at this
        omega
      intro i s hs
      have hi : i < n := by
        have := (List.getElem?_eq_some_iff.1 hs).1
        omega
      obtain ⟨b, hb, hf⟩ := Lib.mapM_at hm i i (by simp [hi])
      obtain ⟨z, hc, rfl, _⟩ := DataW.trod_string he hf
      have h1 : cs[i]? = some (.string z) := by
        have := congrArg (·[0]?) hc
        simpa [List.getElem?_take, List.getElem?_drop] using this
      have h2 : (xs.map (·.1))[i]? = some (DataW.lit (.string z.data.toList) : DataW H) := by simp [hb]
      rw [hxs] at h2
      simp only [List.getElem?_map, hs, Option.map_some, Option.some.injEq, DataW.lit.injEq, Lit.string.injEq] at h2
      rw [h1, h2]
    · cases h
theorem of_laid {W : World} (h : laidMetH Tryd.prog [("math/bits.deBruijn32tab", Rows.laid_math_bits_deBruijn32tab), ("math/bits.deBruijn64tab", Rows.laid_math_bits_deBruijn64tab), ("internal/strconv.uint64pow10", Rows.laid_internal_strconv_uint64pow10), ("tollway/trace.words", Rows.laid_tollway_trace_words)] W) : KK W (UA W) := by
  rw [MakeChecks.laidMetH_plain _ _ _ (by kernel_rfl)] at h
  constructor
  · have h3 := h.tail.tail.tail
    obtain ⟨ps, ⟨g', t', cs, fuel, p, q, hg', ht', hvar, hd, _, _⟩, _⟩ := h3
    obtain rfl := Option.some.inj ((show Tryd.prog.globalNamed "tollway/trace.words" = some 0 by kernel_rfl).symm.trans hg')
    obtain rfl := Option.some.inj ((show (Tryd.prog.globals[0]?).map (·.type) = some 144 by kernel_rfl).symm.trans ht')
    have hc := strs_of_tab (ss := [[], [117, 110, 107, 110, 111, 119, 110, 32, 100, 101, 118, 105, 99, 101], [105, 110, 118, 97, 108, 105, 100, 32, 116, 105, 109, 101], [109, 97, 108, 102, 111, 114, 109, 101, 100, 32, 114, 101, 97, 100, 105, 110, 103], [99, 111, 110, 102, 108, 105, 99, 116, 105, 110, 103, 32, 114, 101, 112, 111, 114, 116, 115], [111, 117, 116, 32, 111, 102, 32, 115, 101, 114, 118, 105, 99, 101], [117, 110, 97, 115, 115, 105, 103, 110, 101, 100, 32, 97, 120, 108, 101, 115], [108, 111, 119, 32, 99, 111, 110, 102, 105, 100, 101, 110, 99, 101], [116, 111, 111, 32, 109, 97, 110, 121, 32, 100, 101, 116, 101, 99, 116, 105, 111, 110, 115], [101, 108, 115, 101, 119, 104, 101, 114, 101, 32, 97, 116, 32, 116, 104, 97, 116, 32, 116, 105, 109, 101], [110, 111, 32, 101, 110, 116, 114, 121], [110, 111, 32, 101, 120, 105, 116], [99, 104, 101, 99, 107, 32, 112, 111, 105, 110, 116, 115, 32, 97, 108, 111, 110, 101], [110, 111, 32, 114, 97, 116, 101], [119, 97, 105, 118, 101, 100, 32, 102, 111, 114, 32, 97, 110, 32, 111, 117, 116, 97, 103, 101], [101, 120, 101, 109, 112, 116], [99, 97, 112, 112, 101, 100], [110, 111, 32, 97, 99, 99, 111, 117, 110, 116], [97, 108, 114, 101, 97, 100, 121, 32, 112, 97, 105, 100]]) Tryd.underlying144 Tryd.underlying9 (by kernel_rfl) hd
    have key : ∀ (j : Nat) (s : ByteArray), wds[j]? = some s → ∃ u, W.cell? ⟨0, 0 + j, none⟩ = some u ∧ 0 + j < UA W 0 ∧ u.oneCell' = true ∧ Rd W (UA W) u (.fl (.string s)) := by
      intro j s hs
      have hs' : ([[], [117, 110, 107, 110, 111, 119, 110, 32, 100, 101, 118, 105, 99, 101], [105, 110, 118, 97, 108, 105, 100, 32, 116, 105, 109, 101], [109, 97, 108, 102, 111, 114, 109, 101, 100, 32, 114, 101, 97, 100, 105, 110, 103], [99, 111, 110, 102, 108, 105, 99, 116, 105, 110, 103, 32, 114, 101, 112, 111, 114, 116, 115], [111, 117, 116, 32, 111, 102, 32, 115, 101, 114, 118, 105, 99, 101], [117, 110, 97, 115, 115, 105, 103, 110, 101, 100, 32, 97, 120, 108, 101, 115], [108, 111, 119, 32, 99, 111, 110, 102, 105, 100, 101, 110, 99, 101], [116, 111, 111, 32, 109, 97, 110, 121, 32, 100, 101, 116, 101, 99, 116, 105, 111, 110, 115], [101, 108, 115, 101, 119, 104, 101, 114, 101, 32, 97, 116, 32, 116, 104, 97, 116, 32, 116, 105, 109, 101], [110, 111, 32, 101, 110, 116, 114, 121], [110, 111, 32, 101, 120, 105, 116], [99, 104, 101, 99, 107, 32, 112, 111, 105, 110, 116, 115, 32, 97, 108, 111, 110, 101], [110, 111, 32, 114, 97, 116, 101], [119, 97, 105, 118, 101, 100, 32, 102, 111, 114, 32, 97, 110, 32, 111, 117, 116, 97, 103, 101], [101, 120, 101, 109, 112, 116], [99, 97, 112, 112, 101, 100], [110, 111, 32, 97, 99, 99, 111, 117, 110, 116], [97, 108, 114, 101, 97, 100, 121, 32, 112, 97, 105, 100]] : List (List UInt8))[j]? = some s.data.toList := by
        have e : ([[], [117, 110, 107, 110, 111, 119, 110, 32, 100, 101, 118, 105, 99, 101], [105, 110, 118, 97, 108, 105, 100, 32, 116, 105, 109, 101], [109, 97, 108, 102, 111, 114, 109, 101, 100, 32, 114, 101, 97, 100, 105, 110, 103], [99, 111, 110, 102, 108, 105, 99, 116, 105, 110, 103, 32, 114, 101, 112, 111, 114, 116, 115], [111, 117, 116, 32, 111, 102, 32, 115, 101, 114, 118, 105, 99, 101], [117, 110, 97, 115, 115, 105, 103, 110, 101, 100, 32, 97, 120, 108, 101, 115], [108, 111, 119, 32, 99, 111, 110, 102, 105, 100, 101, 110, 99, 101], [116, 111, 111, 32, 109, 97, 110, 121, 32, 100, 101, 116, 101, 99, 116, 105, 111, 110, 115], [101, 108, 115, 101, 119, 104, 101, 114, 101, 32, 97, 116, 32, 116, 104, 97, 116, 32, 116, 105, 109, 101], [110, 111, 32, 101, 110, 116, 114, 121], [110, 111, 32, 101, 120, 105, 116], [99, 104, 101, 99, 107, 32, 112, 111, 105, 110, 116, 115, 32, 97, 108, 111, 110, 101], [110, 111, 32, 114, 97, 116, 101], [119, 97, 105, 118, 101, 100, 32, 102, 111, 114, 32, 97, 110, 32, 111, 117, 116, 97, 103, 101], [101, 120, 101, 109, 112, 116], [99, 97, 112, 112, 101, 100], [110, 111, 32, 97, 99, 99, 111, 117, 110, 116], [97, 108, 114, 101, 97, 100, 121, 32, 112, 97, 105, 100]] : List (List UInt8)) = wds.map fun s => s.data.toList := rfl
        rw [e, List.getElem?_map, hs]; rfl
      have h1 : W.cell? ⟨0, 0 + j, none⟩ = some (.string s) := by
        rw [World.var?_cell hg' hvar, Nat.zero_add]
        have := hc j _ hs'
        simpa using this
      exact ⟨_, h1, ua_lt h1, rfl, .fl _⟩
    refine elM fun j x hx => ?_
    unfold GS at hx
    rw [List.getElem?_map] at hx
    obtain ⟨s, hs, rfl⟩ := Option.map_eq_some_iff.1 hx
    exact key j s hs
  · have h2 := h.tail.tail
    have e : (Rows.laid_internal_strconv_uint64pow10 : DataW Unit) = Lib.tabData .u64 Lib.pow10Tab := by kernel_rfl
    rw [e] at h2
    exact Lib.tabIs_of_head (show Tryd.prog.globalNamed "internal/strconv.uint64pow10" = some 2 by kernel_rfl) (show (Tryd.prog.globals[2]?).map (·.type) = some 186 by kernel_rfl) Tryd.underlying186 Tryd.underlying179 (by kernel_rfl) (by kernel_rfl) h2

end Go.Proofs.YtgfbgkoifcacdaaDoor.Wk
