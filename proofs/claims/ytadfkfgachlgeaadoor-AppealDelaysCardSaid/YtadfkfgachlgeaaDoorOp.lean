/- What the arguments read as; what the table of grounds reads as. Condition: they read as data; the table as the text lays it. -/
import Derived.Test.YtadfkfgachlgeaaDoorAv19
import Derived.Test.YtadfkfgachlgeaaDoorB11
import Derived.Test.YtadfkfgachlgeaaDoorRows
import Derived.Test.YtadfkfgachlgeaaDoorTy
import Derived.Lib.LaidTab
import Derived.MakeChecks
set_option linter.unusedSimpArgs false
set_option linter.unusedVariables false
namespace Go.Proofs.YtadfkfgachlgeaaDoor.Wk
open Go Go.RowKit Go.Proofs.YtadfkfgachlgeaaDoor.Av
theorem cz3 : Tryd.prog.cellsOf 3 = 1 := by kernel_rfl
theorem cz45 : Tryd.prog.cellsOf 45 = 1 := by kernel_rfl
theorem cz4 : Tryd.prog.cellsOf 4 = 1 := by kernel_rfl
theorem cz9 : Tryd.prog.cellsOf 9 = 1 := by kernel_rfl
theorem cz22 : Tryd.prog.cellsOf 22 = 1 := by kernel_rfl
theorem cz24 : Tryd.prog.cellsOf 24 = 3 := by kernel_rfl
theorem cz26 : Tryd.prog.cellsOf 26 = 3 := by kernel_rfl
theorem cz28 : Tryd.prog.cellsOf 28 = 12 := by kernel_rfl
theorem opens_3 : Opens Tryd.prog 3 (rI .i64) (fun n => (Lit.int .i64 n).wf = true) := opens_int Tryd.underlying3
theorem opens_45 : Opens Tryd.prog 45 (rI .u16) (fun n => (Lit.int .u16 n).wf = true) := opens_int Tryd.underlying45
theorem opens_4 : Opens Tryd.prog 4 rB (fun _ => True) := opens_bool Tryd.underlying4
theorem opens_9 : Opens Tryd.prog 9 rS (fun s => s.size ≤ maxLen) := opens_str Tryd.underlying9
theorem opens_22 : Opens Tryd.prog 22 (rL 1 (rI .i64)) (fun l => ∀ a ∈ l, (Lit.int .i64 a).wf = true) := opens_slice Tryd.underlying22 cz3 (by omega) opens_3 (fun _ => rfl)
def okLw (x : Lw) : Prop := (∀ a ∈ x.days, (Lit.int .i64 a).wf = true) ∧ (∀ a ∈ x.fees, (Lit.int .i64 a).wf = true) ∧ (Lit.int .i64 x.limit).wf = true
theorem opens_24 : Opens Tryd.prog 24 eLw okLw := by
  intro H enc w base spare held fuel cs x h
  obtain ⟨ys, n, _, _, hl, hy, hf⟩ := DataW.trod_struct Tryd.underlying24 h
  rw [cz24] at hl
  have hy : ys.length = 3 := hy
  obtain ⟨y0, e0⟩ := field_of (hf 0 _ rfl) (by omega)
  obtain ⟨a0, r0, k0⟩ := opens_22 _ _ _ _ _ _ _ _ _ e0
  have r0 : Rc w (UA w) ((cs.drop 0).take (Tryd.prog.cellsOf 22)) _ := r0
  rw [cz22] at r0
  obtain ⟨y1, e1⟩ := field_of (hf 1 _ rfl) (by omega)
  obtain ⟨a1, r1, k1⟩ := opens_22 _ _ _ _ _ _ _ _ _ e1
  have r1 : Rc w (UA w) ((cs.drop 1).take (Tryd.prog.cellsOf 22)) _ := r1
  rw [cz22] at r1
  obtain ⟨y2, e2⟩ := field_of (hf 2 _ rfl) (by omega)
  obtain ⟨a2, r2, k2⟩ := opens_3 _ _ _ _ _ _ _ _ _ e2
  have r2 : Rc w (UA w) ((cs.drop 2).take (Tryd.prog.cellsOf 3)) _ := r2
  rw [cz3] at r2
  refine ⟨⟨a0, a1, a2⟩, ?_, ⟨k0, k1, k2⟩⟩
  exact rc_step r0 (rc_step r1 (rc_step r2 (rc_end hl)))
def okAp (x : Ap) : Prop := (Lit.int .i64 x.state).wf = true ∧ (Lit.int .i64 x.ground).wf = true ∧ (Lit.int .i64 x.day).wf = true
theorem opens_26 : Opens Tryd.prog 26 eAp okAp := by
  intro H enc w base spare held fuel cs x h
  obtain ⟨ys, n, _, _, hl, hy, hf⟩ := DataW.trod_struct Tryd.underlying26 h
  rw [cz26] at hl
  have hy : ys.length = 3 := hy
  obtain ⟨y0, e0⟩ := field_of (hf 0 _ rfl) (by omega)
  obtain ⟨a0, r0, k0⟩ := opens_3 _ _ _ _ _ _ _ _ _ e0
  have r0 : Rc w (UA w) ((cs.drop 0).take (Tryd.prog.cellsOf 3)) _ := r0
  rw [cz3] at r0
  obtain ⟨y1, e1⟩ := field_of (hf 1 _ rfl) (by omega)
  obtain ⟨a1, r1, k1⟩ := opens_3 _ _ _ _ _ _ _ _ _ e1
  have r1 : Rc w (UA w) ((cs.drop 1).take (Tryd.prog.cellsOf 3)) _ := r1
  rw [cz3] at r1
  obtain ⟨y2, e2⟩ := field_of (hf 2 _ rfl) (by omega)
  obtain ⟨a2, r2, k2⟩ := opens_3 _ _ _ _ _ _ _ _ _ e2
  have r2 : Rc w (UA w) ((cs.drop 2).take (Tryd.prog.cellsOf 3)) _ := r2
  rw [cz3] at r2
  refine ⟨⟨a0, a1, a2⟩, ?_, ⟨k0, k1, k2⟩⟩
  exact rc_step r0 (rc_step r1 (rc_step r2 (rc_end hl)))
def okCs (x : Cs) : Prop := x.id.size ≤ maxLen ∧ x.plate.size ≤ maxLen ∧ x.key.size ≤ maxLen ∧ (Lit.int .i64 x.begun).wf = true ∧ (Lit.int .i64 x.since).wf = true ∧ (Lit.int .i64 x.stage).wf = true ∧ (Lit.int .i64 x.owed).wf = true ∧ (Lit.int .i64 x.paid).wf = true ∧ (Lit.int .i64 x.paused).wf = true ∧ okAp x.ap
theorem opens_28 : Opens Tryd.prog 28 eCs okCs := by
  intro H enc w base spare held fuel cs x h
  obtain ⟨ys, n, _, _, hl, hy, hf⟩ := DataW.trod_struct Tryd.underlying28 h
  rw [cz28] at hl
  have hy : ys.length = 10 := hy
  obtain ⟨y0, e0⟩ := field_of (hf 0 _ rfl) (by omega)
  obtain ⟨a0, r0, k0⟩ := opens_9 _ _ _ _ _ _ _ _ _ e0
  have r0 : Rc w (UA w) ((cs.drop 0).take (Tryd.prog.cellsOf 9)) _ := r0
  rw [cz9] at r0
  obtain ⟨y1, e1⟩ := field_of (hf 1 _ rfl) (by omega)
  obtain ⟨a1, r1, k1⟩ := opens_9 _ _ _ _ _ _ _ _ _ e1
  have r1 : Rc w (UA w) ((cs.drop 1).take (Tryd.prog.cellsOf 9)) _ := r1
  rw [cz9] at r1
  obtain ⟨y2, e2⟩ := field_of (hf 2 _ rfl) (by omega)
  obtain ⟨a2, r2, k2⟩ := opens_9 _ _ _ _ _ _ _ _ _ e2
  have r2 : Rc w (UA w) ((cs.drop 2).take (Tryd.prog.cellsOf 9)) _ := r2
  rw [cz9] at r2
  obtain ⟨y3, e3⟩ := field_of (hf 3 _ rfl) (by omega)
  obtain ⟨a3, r3, k3⟩ := opens_3 _ _ _ _ _ _ _ _ _ e3
  have r3 : Rc w (UA w) ((cs.drop 3).take (Tryd.prog.cellsOf 3)) _ := r3
  rw [cz3] at r3
  obtain ⟨y4, e4⟩ := field_of (hf 4 _ rfl) (by omega)
  obtain ⟨a4, r4, k4⟩ := opens_3 _ _ _ _ _ _ _ _ _ e4
  have r4 : Rc w (UA w) ((cs.drop 4).take (Tryd.prog.cellsOf 3)) _ := r4
  rw [cz3] at r4
  obtain ⟨y5, e5⟩ := field_of (hf 5 _ rfl) (by omega)
  obtain ⟨a5, r5, k5⟩ := opens_3 _ _ _ _ _ _ _ _ _ e5
  have r5 : Rc w (UA w) ((cs.drop 5).take (Tryd.prog.cellsOf 3)) _ := r5
  rw [cz3] at r5
  obtain ⟨y6, e6⟩ := field_of (hf 6 _ rfl) (by omega)
  obtain ⟨a6, r6, k6⟩ := opens_3 _ _ _ _ _ _ _ _ _ e6
  have r6 : Rc w (UA w) ((cs.drop 6).take (Tryd.prog.cellsOf 3)) _ := r6
  rw [cz3] at r6
  obtain ⟨y7, e7⟩ := field_of (hf 7 _ rfl) (by omega)
  obtain ⟨a7, r7, k7⟩ := opens_3 _ _ _ _ _ _ _ _ _ e7
  have r7 : Rc w (UA w) ((cs.drop 7).take (Tryd.prog.cellsOf 3)) _ := r7
  rw [cz3] at r7
  obtain ⟨y8, e8⟩ := field_of (hf 8 _ rfl) (by omega)
  obtain ⟨a8, r8, k8⟩ := opens_3 _ _ _ _ _ _ _ _ _ e8
  have r8 : Rc w (UA w) ((cs.drop 8).take (Tryd.prog.cellsOf 3)) _ := r8
  rw [cz3] at r8
  obtain ⟨y9, e9⟩ := field_of (hf 9 _ rfl) (by omega)
  obtain ⟨a9, r9, k9⟩ := opens_26 _ _ _ _ _ _ _ _ _ e9
  have r9 : Rc w (UA w) ((cs.drop 9).take (Tryd.prog.cellsOf 26)) _ := r9
  rw [cz26] at r9
  refine ⟨⟨a0, a1, a2, a3, a4, a5, a6, a7, a8, a9⟩, ?_, ⟨k0, k1, k2, k3, k4, k5, k6, k7, k8, k9⟩⟩
  exact rc_step r0 (rc_step r1 (rc_step r2 (rc_step r3 (rc_step r4 (rc_step r5 (rc_step r6 (rc_step r7 (rc_step r8 (rc_step r9 (rc_end hl))))))))))
theorem i64_r {n : Int} (h : (Lit.int .i64 n).wf = true) : -9223372036854775808 ≤ n ∧ n ≤ 9223372036854775807 := by simpa [Lit.wf, IntKind.min, IntKind.max, IntKind.signed, IntKind.bits] using h
theorem u16_r {n : Int} (h : (Lit.int .u16 n).wf = true) : 0 ≤ n ∧ n ≤ 65535 := by simpa [Lit.wf, IntKind.min, IntKind.max, IntKind.signed, IntKind.bits] using h
theorem strs_of_tab {H : Type} {enc : TypeId × Value → H} {P : Program} {w : World} {base : Nat} {sp : Nat → Bool} {held : Bool} {fuel : Nat} {t e : TypeId} {n : Nat} {cs : List Value} {ss : List (List UInt8)} {p : List MemPlace}
    (ht : P.underlying t = some (.array n e)) (he : P.underlying e = some .string) (hce : P.cellsOf e = 1)
    (h : DataW.trod enc P w base sp held fuel t cs = some (.agg (ss.map fun s => .lit (.string s)), p)) : ∀ (i : Nat) (s : List UInt8), ss[i]? = some s → cs[i]? = some (Value.string ⟨s.toArray⟩) := by
  cases fuel with
  | zero => simp [DataW.trod] at h
  | succ fuel =>
    simp only [DataW.trod, ht, hce, Nat.mul_one] at h
    split at h
    · rename_i hl
      obtain ⟨xs, hm, hx⟩ := Option.map_eq_some_iff.1 h
      have hxs : xs.map (·.1) = ss.map fun s => (DataW.lit (.string s) : DataW H) := by
        have := congrArg Prod.fst hx
        simpa using this
      have hxl : xs.length = n := by simpa using Lib.mapM_length hm
      have hzl : ss.length = n := by
        have := congrArg List.length hxs
        simp at this
        omega
      intro i s hs
      have hi : i < n := by
        have := (List.getElem?_eq_some_iff.1 hs).1
        omega
      obtain ⟨b, hb, hf⟩ := Lib.mapM_at hm i i (by simp [hi])
      obtain ⟨z, hc, rfl, _⟩ := DataW.trod_string he hf
      have h1 : cs[i]? = some (.string z) := by
        have := congrArg (·[0]?) hc
        simpa [List.getElem?_take, List.getElem?_drop] using this
      have h2 : (xs.map (·.1))[i]? = some (DataW.lit (.string z.data.toList) : DataW H) := by simp [hb]
      rw [hxs] at h2
      simp only [List.getElem?_map, hs, Option.map_some, Option.some.injEq, DataW.lit.injEq, Lit.string.injEq] at h2
      rw [h1, h2]
    · cases h
theorem of_laid {W : World} (h : laidMetH Tryd.prog [("unicode/utf8.acceptRanges", Rows.laid_unicode_utf8_acceptRanges), ("tollway/appeal.grounds", Rows.laid_tollway_appeal_grounds), ("unicode/utf8.first", Rows.laid_unicode_utf8_first)] W) : Glo 0 GS W (UA W) := by
  rw [MakeChecks.laidMetH_plain _ _ _ (by kernel_rfl)] at h
  obtain ⟨ps, ⟨g0, t0, cs0, f0, p0, q0, _, _, _, _, ⟨g', t', cs, fuel, p, q, hg', ht', hvar, hd, _, _⟩, _⟩, _⟩ := h
  obtain rfl := Option.some.inj ((show Tryd.prog.globalNamed "tollway/appeal.grounds" = some 0 by kernel_rfl).symm.trans hg')
  obtain rfl := Option.some.inj ((show (Tryd.prog.globals[0]?).map (·.type) = some 59 by kernel_rfl).symm.trans ht')
  have hc := strs_of_tab (ss := [[100, 114, 105, 118, 101, 114], [115, 111, 108, 100], [115, 116, 111, 108, 101, 110], [112, 97, 105, 100], [109, 105, 115, 114, 101, 97, 100]]) Tryd.underlying59 Tryd.underlying9 (by kernel_rfl) hd
  have key : ∀ (j : Nat) (s : List UInt8), ([[100, 114, 105, 118, 101, 114], [115, 111, 108, 100], [115, 116, 111, 108, 101, 110], [112, 97, 105, 100], [109, 105, 115, 114, 101, 97, 100]] : List (List UInt8))[j]? = some s → ∃ u, W.cell? ⟨0, 0 + j, none⟩ = some u ∧ 0 + j < UA W 0 ∧ u.oneCell' = true ∧ Rd W (UA W) u (.fl (.string ⟨s.toArray⟩)) := by
    intro j s hs
    have h1 : W.cell? ⟨0, 0 + j, none⟩ = some (.string ⟨s.toArray⟩) := by
      rw [World.var?_cell hg' hvar, Nat.zero_add, ← hc j s hs]
      simp
    exact ⟨_, h1, ua_lt h1, rfl, .fl _⟩
  refine elM fun j x hx => ?_
  rcases (by have := (List.getElem?_eq_some_iff.1 hx).1; change j < 5 at this; omega : j = 0 ∨ j = 1 ∨ j = 2 ∨ j = 3 ∨ j = 4) with rfl | rfl | rfl | rfl | rfl
  all_goals (obtain rfl := Option.some.inj hx; exact key _ _ rfl)

end Go.Proofs.YtadfkfgachlgeaaDoor.Wk
