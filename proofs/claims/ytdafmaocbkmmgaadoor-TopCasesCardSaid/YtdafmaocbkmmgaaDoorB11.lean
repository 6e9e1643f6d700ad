/- Appeals: the last day, the grounds, what Decide asks. No condition. -/
import Derived.Test.YtdafmaocbkmmgaaDoorB5
set_option linter.unusedSimpArgs false
set_option linter.unusedVariables false
namespace Go.Proofs.YtdafmaocbkmmgaaDoor.Wk
open Go Go.RowKit Go.Proofs.YtdafmaocbkmmgaaDoor.Av
theorem lat_lt {cal : List Int} : ∀ (f : Nat) (d n : Int) {r : Int}, d + (f : Int) = 795363 → lat cal f d n = (r, 0) → r < 795364
  | 0, d, n, r, hf, h => by
    unfold lat at h
    split at h
    · injection h with h1 h2; omega
    · cases h
  | f + 1, d, n, r, hf, h => by
    unfold lat at h
    split at h
    · injection h with h1 h2; omega
    · exact lat_lt f _ _ (by omega) h
theorem lat_ge0 {cal : List Int} : ∀ (f : Nat) (d n : Int) {r : Int}, lat cal f d n = (r, 0) → d ≤ r
  | 0, d, n, r, h => by
    unfold lat at h
    split at h
    · injection h with h1 h2; omega
    · cases h
  | f + 1, d, n, r, h => by
    unfold lat at h
    split at h
    · injection h with h1 h2; omega
    · have := lat_ge0 f _ _ h; omega
theorem latS_rng {cal : List Int} {d n r : Int} (h : latS cal d n = (r, 0)) : 0 ≤ r ∧ r < 795364 := by
  unfold latS at h
  split at h
  · cases h
  · rename_i h1
    have hd := isD_t (nnb h1)
    split at h
    · cases h
    · have a := lat_ge0 _ _ _ h
      have b := lat_lt _ _ _ (by omega) h
      omega
def pend (x : Cs) : Bool := x.ap.state == 1
abbrev gw : List ByteArray := [⟨#[100, 114, 105, 118, 101, 114]⟩, ⟨#[115, 111, 108, 100]⟩, ⟨#[115, 116, 111, 108, 101, 110]⟩, ⟨#[112, 97, 105, 100]⟩, ⟨#[109, 105, 115, 114, 101, 97, 100]⟩]
abbrev GS : List DV := [.fl (.string ⟨#[100, 114, 105, 118, 101, 114]⟩), .fl (.string ⟨#[115, 111, 108, 100]⟩), .fl (.string ⟨#[115, 116, 111, 108, 101, 110]⟩), .fl (.string ⟨#[112, 97, 105, 100]⟩), .fl (.string ⟨#[109, 105, 115, 114, 101, 97, 100]⟩)]
def isG (g : Int) : Bool := decide (1 ≤ g) && decide (g ≤ 5)
theorem isG_t {g : Int} (h : isG g = true) : 1 ≤ g ∧ g ≤ 5 := by simpa [isG] using h
def grd (g : Int) : ByteArray := if isG g = true then ix gw (g - 1).toNat else ⟨#[]⟩
theorem GS_at {g : Int} (h1 : 1 ≤ g) (h2 : g ≤ 5) : GS[(g - 1).toNat]? = some (.fl (.string (ix gw (g - 1).toNat))) := by
  rcases (by omega : g = 1 ∨ g = 2 ∨ g = 3 ∨ g = 4 ∨ g = 5) with rfl | rfl | rfl | rfl | rfl <;> rfl
theorem GS_drop {g : Int} (h1 : 1 ≤ g) (h2 : g ≤ 5) : (GS.drop (g - 1).toNat)[0]? = some (.fl (.string (ix gw (g - 1).toNat))) := by
  rw [List.getElem?_drop, Nat.add_zero]; exact GS_at h1 h2
theorem grd_no {g : Int} : sEq (grd g) ⟨#[]⟩ = !(isG g) := by
  unfold grd
  cases h : isG g with
  | false => rfl
  | true =>
    have := isG_t h
    rw [if_pos rfl]
    rcases (by omega : g = 1 ∨ g = 2 ∨ g = 3 ∨ g = 4 ∨ g = 5) with rfl | rfl | rfl | rfl | rfl <;> decide
def last (w : Lw) (cal : List Int) (x : Cs) : Int × Bool := if (!(due w cal x).2 || (x.stage == 1) || (x.ap.state != 0)) = true then (0, false) else (if ((latS cal x.since 10).2 == 0) = true then min ((due w cal x).1 - 1) (latS cal x.since 10).1 else (due w cal x).1 - 1, true)
theorem last_alt (w : Lw) (cal : List Int) (x : Cs) : (!(due w cal x).2 || !(opn x) || decide (x.stage < 2) || decide (4 < x.stage) || (x.ap.state != 0)) = (!(due w cal x).2 || (x.stage == 1) || (x.ap.state != 0)) := by
  cases h : (due w cal x).2 with
  | false => rfl
  | true =>
    have hk := due_ok h
    rw [Bool.eq_iff_iff]
    simp [opn]
    omega
theorem due_rng {w : Lw} {cal : List Int} {x : Cs} (h : (due w cal x).2 = true) : 0 ≤ (due w cal x).1 ∧ (due w cal x).1 < 795364 := by
  have hk := (due_ok h).2.2.2.2
  have := latS_rng hk
  exact this
def fil (w : Lw) (cal : List Int) (x : Cs) (g day : Int) : Cs × Int :=
  if ((adv w cal x day).2 != 0) = true then (z0, (adv w cal x day).2) else if (!(isG g)) = true then (z0, 1) else if (!(opn (adv w cal x day).1)) = true then (z0, 28) else
  if (((adv w cal x day).1.ap.state != 0) || ((adv w cal x day).1.stage == 1)) = true then (z0, 11) else
  if (!(last w cal (adv w cal x day).1).2 || decide ((last w cal (adv w cal x day).1).1 < day)) = true then (z0, 29) else ({ (adv w cal x day).1 with ap := Ap.mk 1 g day }, 0)
def chD (w : Lw) (x : Cs) (day : Int) : Int := if (ckL w != 0) = true then ckL w else if (!(opn x)) = true then 28 else if (!(pend x)) = true then 11 else if (!(isD day) || !(isD x.ap.day) || !(isD x.begun) || !(isD x.since) || decide (x.paused < 0) || decide (795364 < x.paused)) = true then 12 else if (decide (x.ap.day < x.since) || decide (day < x.ap.day)) = true then 15 else 0
theorem chD_ok {w : Lw} {x : Cs} {day : Int} (h : chD w x day = 0) : ckL w = 0 ∧ opn x = true ∧ x.ap.state = 1 ∧ (0 ≤ day ∧ day < 795364) ∧ (0 ≤ x.begun ∧ x.begun < 795364) ∧ (0 ≤ x.since ∧ x.since ≤ x.ap.day) ∧ x.ap.day ≤ day ∧ (0 ≤ x.paused ∧ x.paused ≤ 795364) := by
  unfold chD at h
  split at h
  · rename_i h1; simp at h1; exact absurd h h1
  · rename_i h1
    split at h
    · cases h
    · rename_i h2
      split at h
      · cases h
      · rename_i h3
        split at h
        · cases h
        · rename_i h4
          split at h
          · cases h
          · rename_i h5
            simp at h1 h4 h5
            have h3 := nnb h3
            obtain ⟨⟨⟨⟨⟨g1, g2⟩, g3⟩, g4⟩, g5⟩, g6⟩ := h4
            have g1 := isD_t g1
            have g3 := isD_t g3
            have g4 := isD_t g4
            exact ⟨h1, nnb h2, by simpa [pend] using h3, g1, g3, by omega, by omega, by omega⟩
def dn (x : Cs) (day : Int) : Cs := Cs.mk x.id x.plate x.key x.begun (x.since + (day - x.ap.day)) x.stage x.owed x.paid (min (x.paused + (day - x.ap.day)) 795364) (Ap.mk 3 x.ap.ground day)
def dec (w : Lw) (cal : List Int) (x : Cs) (up : Bool) (day : Int) : Cs × Int := if (chD w x day != 0) = true then (z0, chD w x day) else if up = true then (Cs.mk x.id x.plate x.key x.begun x.since 7 x.owed x.paid x.paused (Ap.mk 2 x.ap.ground day), 0) else adv w cal (dn x day) day
theorem adv_z (w : Lw) (cal : List Int) (x : Cs) (day : Int) (h : (adv w cal x day).2 ≠ 0) : adv w cal x day = (z0, (adv w cal x day).2) := by
  unfold adv at h ⊢
  split
  · rfl
  · rename_i h0
    rw [if_neg h0] at h
    split at h <;> exact absurd rfl h

set_option maxHeartbeats 4000000 in
set_option maxRecDepth 100000 in
theorem pend17 (x : Cs) : Ctr Tryd.prog 12 [.ag (eCs x)] (.d (.fl (.bool (pend x)))) := by
  refine ctr (n := 7) (rs := #[.tmp 2]) (L := [(0, .d (.ag (eCs x)))]) Tryd.func12 rfl rfl rfl rfl rfl (fun w0 U0 => ?_)
  refine a_rseq ?_
  refine rg_nam (d := 1) (v := .pt 101 0) (m := 101) (nw := [(101, .bx 32 (eCs x))]) rfl (og rfl (of_eff (op_box 101 rfl rfl rfl rfl) rfl)) rfl ?_
  refine rg_put (d := 2) (v := .d (.fl (.bool false))) rfl (og rfl (op_assign rfl rfl rfl)) ?_
  refine rg_done rfl ?_
  refine a_rseq ?_
  refine rg_put (d := 3) (v := .pt 101 9) rfl (og rfl (of_eff (s_field_pt rfl Tryd.underlying32 rfl ti30 rfl rfl rfl) rfl)) ?_
  refine rg_put (d := 4) (v := .pt 101 9) rfl (og rfl (of_eff (s_field_pt rfl Tryd.underlying30 rfl ti3 rfl rfl rfl) rfl)) ?_
  refine rg_put (d := 5) (v := .d (.fl (.int .i64 x.ap.state))) rfl (og rfl (op_load_pt rfl Tryd.underlying3 rfl rfl rfl rfl rfl)) ?_
  refine rg_put (d := 6) (v := .d (.fl (.bool (x.ap.state == 1)))) rfl (og rfl (op_bin rfl rfl rfl (b_eql _ _ _ _) rfl)) ?_
  refine rg_put (d := 2) (v := .d (.fl (.bool (x.ap.state == 1)))) rfl (og rfl (op_assign rfl rfl rfl)) ?_
  refine rg_done rfl ?_
  refine a_ret ?_
  show ∃ ds, ResL _ _ _ ds ∧ RV.of ds = _
  refine ⟨[.fl (.bool (x.ap.state == 1))], (.cons (.tmp rfl (.d _)) .nil), ?_⟩
  rfl

set_option maxHeartbeats 4000000 in
set_option maxRecDepth 100000 in
theorem isG24 (g : Int) : Ctr Tryd.prog 19 [.fl (.int .i64 g)] (.d (.fl (.bool (isG g)))) := by
  refine ctr (n := 9) (rs := #[.tmp 2]) (L := [(0, .d (.fl (.int .i64 g)))]) Tryd.func19 rfl rfl rfl rfl rfl (fun w0 U0 => ?_)
  refine a_rseq ?_
  refine rg_put (d := 2) (v := .d (.fl (.bool false))) rfl (og rfl (op_assign rfl rfl rfl)) ?_
  refine rg_done rfl ?_
  refine a_rseq ?_
  refine rg_put (d := 3) (v := .d (.fl (.int .i64 g))) rfl (og rfl (op_move rfl rfl rfl)) ?_
  refine rg_put (d := 4) (v := .d (.fl (.bool ((decide (1 ≤ g)))))) rfl (og rfl (op_bin rfl rfl rfl (b_leq _ _ _ _) rfl)) ?_
  refine rg_put (d := 5) (v := .d (.fl (.bool ((decide (1 ≤ g)))))) rfl (og rfl (op_move rfl rfl rfl)) ?_
  rcases fot ((decide (1 ≤ g))) with h1 | h1
  · skip
    have h2 := f_dec h1
    refine rg_put (d := 6) (v := .d (.fl undef)) rfl (on rfl rfl rfl h1) ?_
    refine rg_put (d := 7) (v := .d (.fl undef)) rfl (on rfl rfl rfl h1) ?_
    refine rg_put (d := 8) (v := .d (.fl (.bool false))) rfl (og rfl (op_pick rfl rfl (by rw [h1]; rfl) rfl)) ?_
    refine rg_put (d := 2) (v := .d (.fl (.bool false))) rfl (og rfl (op_assign rfl rfl rfl)) ?_
    refine rg_done rfl ?_
    refine a_ret ?_
    show ∃ ds, ResL _ _ _ ds ∧ RV.of ds = _
    refine ⟨[.fl (.bool false)], (.cons (.tmp rfl (.d _)) .nil), ?_⟩
    have hu : isG g = false := by
      unfold isG; simp only [h1]; rfl
    rw [hu]; rfl
  · skip
    have h3 := t_dec h1
    refine rg_put (d := 6) (v := .d (.fl (.int .i64 g))) rfl (oy rfl rfl rfl h1 (op_move rfl rfl rfl)) ?_
    refine rg_put (d := 7) (v := .d (.fl (.bool ((decide (g ≤ 5)))))) rfl (oy rfl rfl rfl h1 (op_bin rfl rfl rfl (b_leq _ _ _ _) rfl)) ?_
    refine rg_put (d := 8) (v := .d (.fl (.bool ((decide (g ≤ 5)))))) rfl (og rfl (op_pick rfl rfl (by rw [h1]; rfl) rfl)) ?_
    refine rg_put (d := 2) (v := .d (.fl (.bool ((decide (g ≤ 5)))))) rfl (og rfl (op_assign rfl rfl rfl)) ?_
    refine rg_done rfl ?_
    refine a_ret ?_
    show ∃ ds, ResL _ _ _ ds ∧ RV.of ds = _
    refine ⟨[.fl (.bool ((decide (g ≤ 5))))], (.cons (.tmp rfl (.d _)) .nil), ?_⟩
    have hu : isG g = (decide (g ≤ 5)) := by
      unfold isG; simp only [h1]; rfl
    rw [hu]; rfl


set_option maxHeartbeats 4000000 in
set_option maxRecDepth 100000 in
theorem last15 (w : Lw) (cal : List Int) (x : Cs) (hl0 : cal.length < 9223372036854775807) : Ctr Tryd.prog 20 [.ag (eLw w), .sl 1 (List.map (rI .i64) cal), .ag (eCs x)] (.tu [.fl (.int .i64 (last w cal x).1), .fl (.bool (last w cal x).2)]) := by
  refine ctr (n := 48) (rs := #[.tmp 6, .tmp 7]) (L := [(0, .d (.ag (eLw w))), (1, .d (.sl 1 (List.map (rI .i64) cal))), (2, .d (.ag (eCs x)))]) Tryd.func20 rfl rfl rfl rfl rfl (fun w0 U0 => ?_)
  refine a_rseq ?_
  refine rg_nam (d := 3) (v := .pt 101 0) (m := 101) (nw := [(101, .bx 24 (eLw w))]) rfl (og rfl (of_eff (op_box 101 rfl rfl rfl rfl) rfl)) rfl ?_
  refine rg_nam (d := 5) (v := .pt 102 0) (m := 102) (nw := [(102, .bx 32 (eCs x))]) rfl (og rfl (of_eff (op_box 102 rfl rfl rfl rfl) rfl)) rfl ?_
  refine rg_put (d := 6) (v := .d (.fl (.int .i64 0))) rfl (og rfl (op_assign rfl rfl rfl)) ?_
  refine rg_put (d := 7) (v := .d (.fl (.bool false))) rfl (og rfl (op_assign rfl rfl rfl)) ?_
  refine rg_done rfl ?_
  refine a_rseq ?_
  refine rg_put (d := 14) (v := .d (.ag (eLw w))) rfl (og rfl (of_eff (s_load_pts rfl Tryd.underlying24 rfl ti24 rfl rfl rfl rfl) rfl)) ?_
  refine rg_put (d := 15) (v := .d (.sl 1 (List.map (rI .i64) cal))) rfl (og rfl (op_move rfl rfl rfl)) ?_
  refine rg_put (d := 16) (v := .d (.ag (eCs x))) rfl (og rfl (of_eff (s_load_pts rfl Tryd.underlying32 rfl ti32 rfl rfl rfl rfl) rfl)) ?_
  refine rg_put (d := 17) (v := .tu [.fl (.int .i64 ((due w cal x).1)), .fl (.bool ((due w cal x).2))]) rfl (og rfl (op_call rfl Tryd.func26 nm26 rfl (.cons rfl (.d _) (.cons rfl (.d _) (.cons rfl (.d _) .nil))) (due19 w cal x hl0) rfl)) ?_
  refine rg_put (d := 13) (v := .tu [.fl (.int .i64 ((due w cal x).1)), .fl (.bool ((due w cal x).2))]) rfl (og rfl (op_move rfl rfl rfl)) ?_
  refine rg_put (d := 18) (v := .d (.fl (.int .i64 ((due w cal x).1)))) rfl (og rfl (op_extract rfl rfl rfl rfl)) ?_
  refine rg_put (d := 19) (v := .d (.fl (.bool ((due w cal x).2)))) rfl (og rfl (op_extract rfl rfl rfl rfl)) ?_
  refine rg_put (d := 8) (v := .d (.fl (.int .i64 ((due w cal x).1)))) rfl (og rfl (op_assign rfl rfl rfl)) ?_
  refine rg_put (d := 9) (v := .d (.fl (.bool ((due w cal x).2)))) rfl (og rfl (op_assign rfl rfl rfl)) ?_
  refine rg_done rfl ?_
  refine a_seq ?_
  refine a_rseq ?_
  refine rg_put (d := 20) (v := .d (.fl (.bool ((due w cal x).2)))) rfl (og rfl (op_move rfl rfl rfl)) ?_
  refine rg_put (d := 21) (v := .d (.fl (.bool ((!((due w cal x).2)))))) rfl (og rfl (op_un rfl rfl (u_not _) rfl)) ?_
  refine rg_put (d := 22) (v := .d (.fl (.bool ((!((due w cal x).2)))))) rfl (og rfl (op_move rfl rfl rfl)) ?_
  rcases fot ((!((due w cal x).2))) with h1 | h1
  · skip
    have h2 := f_not h1
    have hdr := due_rng h2
    refine rg_put (d := 23) (v := .pt 102 5) rfl (oy rfl rfl rfl h1 (of_eff (s_field_pt rfl Tryd.underlying32 rfl ti3 rfl rfl rfl) rfl)) ?_
    refine rg_put (d := 24) (v := .d (.fl (.int .i64 x.stage))) rfl (oy rfl rfl rfl h1 (op_load_pt rfl Tryd.underlying3 rfl rfl rfl rfl rfl)) ?_
    refine rg_put (d := 25) (v := .d (.fl (.bool (x.stage == 1)))) rfl (oy rfl rfl rfl h1 (op_bin rfl rfl rfl (b_eql _ _ _ _) rfl)) ?_
    refine rg_put (d := 26) (v := .d (.fl (.bool (x.stage == 1)))) rfl (og rfl (op_pick rfl rfl (by rw [h1]; rfl) rfl)) ?_
    refine rg_put (d := 27) (v := .d (.fl (.bool (x.stage == 1)))) rfl (og rfl (op_move rfl rfl rfl)) ?_
    rcases fot (x.stage == 1) with h3 | h3
    · skip
      have h4 := f_beq h3
      refine rg_put (d := 28) (v := .pt 102 9) rfl (oy rfl rfl rfl h3 (of_eff (s_field_pt rfl Tryd.underlying32 rfl ti30 rfl rfl rfl) rfl)) ?_
      refine rg_put (d := 29) (v := .pt 102 9) rfl (oy rfl rfl rfl h3 (of_eff (s_field_pt rfl Tryd.underlying30 rfl ti3 rfl rfl rfl) rfl)) ?_
      refine rg_put (d := 30) (v := .d (.fl (.int .i64 x.ap.state))) rfl (oy rfl rfl rfl h3 (op_load_pt rfl Tryd.underlying3 rfl rfl rfl rfl rfl)) ?_
      refine rg_put (d := 31) (v := .d (.fl (.bool (x.ap.state != 0)))) rfl (oy rfl rfl rfl h3 (op_bin rfl rfl rfl (b_neq _ _ _ _) rfl)) ?_
      refine rg_put (d := 32) (v := .d (.fl (.bool (x.ap.state != 0)))) rfl (og rfl (op_pick rfl rfl (by rw [h3]; rfl) rfl)) ?_
      refine rg_done rfl ?_
      refine a_cond rfl (fun h5 => ?_) (fun h5 => ?_)
      · skip
        have h6 := t_bne h5
        refine a_rseq ?_
        refine rg_put (d := 6) (v := .d (.fl (.int .i64 0))) rfl (og rfl (op_assign rfl rfl rfl)) ?_
        refine rg_put (d := 7) (v := .d (.fl (.bool false))) rfl (og rfl (op_assign rfl rfl rfl)) ?_
        refine rg_done rfl ?_
        refine a_ret ?_
        show ∃ ds, ResL _ _ _ ds ∧ RV.of ds = _
        refine ⟨[.fl (.int .i64 0), .fl (.bool false)], (.cons (.tmp rfl (.d _)) (.cons (.tmp rfl (.d _)) .nil)), ?_⟩
        have hu : last w cal x = (0, false) := by
          unfold last; simp only [h1, h2, h3, h5]; rfl
        rw [hu]; rfl
      · skip
        have h7 := f_bne h5
        refine a_skip ?_
        show A _ _ _ _ _ _ _
        refine a_rseq ?_
        refine rg_put (d := 33) (v := .d (.fl (.int .i64 ((due w cal x).1)))) rfl (og rfl (op_move rfl rfl rfl)) ?_
        refine rg_put (d := 34) (v := .d (.fl (.int .i64 (((due w cal x).1 - 1))))) rfl (og rfl (op_bin rfl rfl rfl (fun x y w => b_sub64 _ _ _ x y w (by omega)) rfl)) ?_
        refine rg_put (d := 10) (v := .d (.fl (.int .i64 (((due w cal x).1 - 1))))) rfl (og rfl (op_assign rfl rfl rfl)) ?_
        refine rg_done rfl ?_
        refine a_seq ?_
        refine a_rseq ?_
        refine rg_put (d := 36) (v := .d (.sl 1 (List.map (rI .i64) cal))) rfl (og rfl (op_move rfl rfl rfl)) ?_
        refine rg_put (d := 37) (v := .pt 102 4) rfl (og rfl (of_eff (s_field_pt rfl Tryd.underlying32 rfl ti3 rfl rfl rfl) rfl)) ?_
        refine rg_put (d := 38) (v := .d (.fl (.int .i64 x.since))) rfl (og rfl (op_load_pt rfl Tryd.underlying3 rfl rfl rfl rfl rfl)) ?_
        refine rg_put (d := 39) (v := .tu [.fl (.int .i64 ((latS cal x.since 10).1)), .fl (.int .i64 ((latS cal x.since 10).2))]) rfl (og rfl (op_call rfl Tryd.func27 nm27 rfl (.cons rfl (.d _) (.cons rfl (.d _) (.cons rfl (.d _) .nil))) (later37 cal x.since 10 (by omega)) rfl)) ?_
        refine rg_put (d := 35) (v := .tu [.fl (.int .i64 ((latS cal x.since 10).1)), .fl (.int .i64 ((latS cal x.since 10).2))]) rfl (og rfl (op_move rfl rfl rfl)) ?_
        refine rg_put (d := 40) (v := .d (.fl (.int .i64 ((latS cal x.since 10).1)))) rfl (og rfl (op_extract rfl rfl rfl rfl)) ?_
        refine rg_put (d := 41) (v := .d (.fl (.int .i64 ((latS cal x.since 10).2)))) rfl (og rfl (op_extract rfl rfl rfl rfl)) ?_
        refine rg_put (d := 11) (v := .d (.fl (.int .i64 ((latS cal x.since 10).1)))) rfl (og rfl (op_assign rfl rfl rfl)) ?_
        refine rg_put (d := 12) (v := .d (.fl (.int .i64 ((latS cal x.since 10).2)))) rfl (og rfl (op_assign rfl rfl rfl)) ?_
        refine rg_done rfl ?_
        refine a_rseq ?_
        refine rg_put (d := 42) (v := .d (.fl (.int .i64 ((latS cal x.since 10).2)))) rfl (og rfl (op_move rfl rfl rfl)) ?_
        refine rg_put (d := 43) (v := .d (.fl (.bool (((latS cal x.since 10).2 == 0))))) rfl (og rfl (op_bin rfl rfl rfl (b_eql _ _ _ _) rfl)) ?_
        refine rg_done rfl ?_
        refine a_cond rfl (fun h8 => ?_) (fun h8 => ?_)
        · skip
          have h9 := t_beq h8
          refine a_region ?_
          refine rg_put (d := 44) (v := .d (.fl (.int .i64 (((due w cal x).1 - 1))))) rfl (og rfl (op_move rfl rfl rfl)) ?_
          refine rg_put (d := 45) (v := .d (.fl (.int .i64 ((latS cal x.since 10).1)))) rfl (og rfl (op_move rfl rfl rfl)) ?_
          refine rg_put (d := 46) (v := .d (.fl (.int .i64 ((min (((due w cal x).1 - 1)) ((latS cal x.since 10).1)))))) rfl (og rfl (op_min rfl rfl rfl rfl)) ?_
          refine rg_put (d := 10) (v := .d (.fl (.int .i64 ((min (((due w cal x).1 - 1)) ((latS cal x.since 10).1)))))) rfl (og rfl (op_assign rfl rfl rfl)) ?_
          refine rg_done rfl ?_
          show A _ _ _ _ _ _ _
          refine a_rseq ?_
          refine rg_put (d := 47) (v := .d (.fl (.int .i64 ((min (((due w cal x).1 - 1)) ((latS cal x.since 10).1)))))) rfl (og rfl (op_move rfl rfl rfl)) ?_
          refine rg_put (d := 6) (v := .d (.fl (.int .i64 ((min (((due w cal x).1 - 1)) ((latS cal x.since 10).1)))))) rfl (og rfl (op_assign rfl rfl rfl)) ?_
          refine rg_put (d := 7) (v := .d (.fl (.bool true))) rfl (og rfl (op_assign rfl rfl rfl)) ?_
          refine rg_done rfl ?_
          refine a_ret ?_
          show ∃ ds, ResL _ _ _ ds ∧ RV.of ds = _
          refine ⟨[.fl (.int .i64 ((min (((due w cal x).1 - 1)) ((latS cal x.since 10).1)))), .fl (.bool true)], (.cons (.tmp rfl (.d _)) (.cons (.tmp rfl (.d _)) .nil)), ?_⟩
          have hu : last w cal x = ((min (((due w cal x).1 - 1)) ((latS cal x.since 10).1)), true) := by
            unfold last; simp only [h1, h2, h3, h5, h8]; rfl
          rw [hu]; rfl
        · skip
          have h10 := f_beq h8
          refine a_skip ?_
          show A _ _ _ _ _ _ _
          refine a_rseq ?_
          refine rg_put (d := 47) (v := .d (.fl (.int .i64 (((due w cal x).1 - 1))))) rfl (og rfl (op_move rfl rfl rfl)) ?_
          refine rg_put (d := 6) (v := .d (.fl (.int .i64 (((due w cal x).1 - 1))))) rfl (og rfl (op_assign rfl rfl rfl)) ?_
          refine rg_put (d := 7) (v := .d (.fl (.bool true))) rfl (og rfl (op_assign rfl rfl rfl)) ?_
          refine rg_done rfl ?_
          refine a_ret ?_
          show ∃ ds, ResL _ _ _ ds ∧ RV.of ds = _
          refine ⟨[.fl (.int .i64 (((due w cal x).1 - 1))), .fl (.bool true)], (.cons (.tmp rfl (.d _)) (.cons (.tmp rfl (.d _)) .nil)), ?_⟩
          have hu : last w cal x = (((due w cal x).1 - 1), true) := by
            unfold last; simp only [h1, h2, h3, h5, h8]; rfl
          rw [hu]; rfl
    · skip
      have h11 := t_beq h3
      refine rg_put (d := 28) (v := .d (.fl undef)) rfl (on rfl rfl rfl h3) ?_
      refine rg_put (d := 29) (v := .d (.fl undef)) rfl (on rfl rfl rfl h3) ?_
      refine rg_put (d := 30) (v := .d (.fl undef)) rfl (on rfl rfl rfl h3) ?_
      refine rg_put (d := 31) (v := .d (.fl undef)) rfl (on rfl rfl rfl h3) ?_
      refine rg_put (d := 32) (v := .d (.fl (.bool true))) rfl (og rfl (op_pick rfl rfl (by rw [h3]; rfl) rfl)) ?_
      refine rg_done rfl ?_
      refine a_condK rfl rfl ?_
      refine a_rseq ?_
      refine rg_put (d := 6) (v := .d (.fl (.int .i64 0))) rfl (og rfl (op_assign rfl rfl rfl)) ?_
      refine rg_put (d := 7) (v := .d (.fl (.bool false))) rfl (og rfl (op_assign rfl rfl rfl)) ?_
      refine rg_done rfl ?_
      refine a_ret ?_
      show ∃ ds, ResL _ _ _ ds ∧ RV.of ds = _
      refine ⟨[.fl (.int .i64 0), .fl (.bool false)], (.cons (.tmp rfl (.d _)) (.cons (.tmp rfl (.d _)) .nil)), ?_⟩
      have hu : last w cal x = (0, false) := by
        unfold last; simp only [h1, h2, h3]; rfl
      rw [hu]; rfl
  · skip
    have h12 := t_not h1
    refine rg_put (d := 23) (v := .d (.fl undef)) rfl (on rfl rfl rfl h1) ?_
    refine rg_put (d := 24) (v := .d (.fl undef)) rfl (on rfl rfl rfl h1) ?_
    refine rg_put (d := 25) (v := .d (.fl undef)) rfl (on rfl rfl rfl h1) ?_
    refine rg_put (d := 26) (v := .d (.fl (.bool true))) rfl (og rfl (op_pick rfl rfl (by rw [h1]; rfl) rfl)) ?_
    refine rg_put (d := 27) (v := .d (.fl (.bool true))) rfl (og rfl (op_move rfl rfl rfl)) ?_
    refine rg_put (d := 28) (v := .d (.fl undef)) rfl (on rfl rfl rfl rfl) ?_
    refine rg_put (d := 29) (v := .d (.fl undef)) rfl (on rfl rfl rfl rfl) ?_
    refine rg_put (d := 30) (v := .d (.fl undef)) rfl (on rfl rfl rfl rfl) ?_
    refine rg_put (d := 31) (v := .d (.fl undef)) rfl (on rfl rfl rfl rfl) ?_
    refine rg_put (d := 32) (v := .d (.fl (.bool true))) rfl (og rfl (op_pick rfl rfl rfl rfl)) ?_
    refine rg_done rfl ?_
    refine a_condK rfl rfl ?_
    refine a_rseq ?_
    refine rg_put (d := 6) (v := .d (.fl (.int .i64 0))) rfl (og rfl (op_assign rfl rfl rfl)) ?_
    refine rg_put (d := 7) (v := .d (.fl (.bool false))) rfl (og rfl (op_assign rfl rfl rfl)) ?_
    refine rg_done rfl ?_
    refine a_ret ?_
    show ∃ ds, ResL _ _ _ ds ∧ RV.of ds = _
    refine ⟨[.fl (.int .i64 0), .fl (.bool false)], (.cons (.tmp rfl (.d _)) (.cons (.tmp rfl (.d _)) .nil)), ?_⟩
    have hu : last w cal x = (0, false) := by
      unfold last; simp only [h1, h12]; rfl
    rw [hu]; rfl

set_option maxHeartbeats 4000000 in
set_option maxRecDepth 100000 in
theorem chD29 (w : Lw) (x : Cs) (day : Int) : Ctr Tryd.prog 21 [.ag (eLw w), .ag (eCs x), .fl (.int .i64 day)] (.d (.fl (.int .i64 (chD w x day)))) := by
  refine ctr (n := 68) (rs := #[.tmp 6]) (L := [(0, .d (.ag (eLw w))), (1, .d (.ag (eCs x))), (2, .d (.fl (.int .i64 day)))]) Tryd.func21 rfl rfl rfl rfl rfl (fun w0 U0 => ?_)
  refine a_rseq ?_
  refine rg_nam (d := 3) (v := .pt 101 0) (m := 101) (nw := [(101, .bx 24 (eLw w))]) rfl (og rfl (of_eff (op_box 101 rfl rfl rfl rfl) rfl)) rfl ?_
  refine rg_nam (d := 4) (v := .pt 102 0) (m := 102) (nw := [(102, .bx 32 (eCs x))]) rfl (og rfl (of_eff (op_box 102 rfl rfl rfl rfl) rfl)) rfl ?_
  refine rg_put (d := 6) (v := .d (.fl (.int .i64 0))) rfl (og rfl (op_assign rfl rfl rfl)) ?_
  refine rg_done rfl ?_
  refine a_seq ?_
  refine a_rseq ?_
  refine rg_put (d := 8) (v := .d (.ag (eLw w))) rfl (og rfl (of_eff (s_load_pts rfl Tryd.underlying24 rfl ti24 rfl rfl rfl rfl) rfl)) ?_
  refine rg_put (d := 9) (v := .d (.fl (.int .i64 (ckL w)))) rfl (og rfl (op_call rfl Tryd.func25 nm25 rfl (.cons rfl (.d _) .nil) (ck12 w) rfl)) ?_
  refine rg_put (d := 7) (v := .d (.fl (.int .i64 (ckL w)))) rfl (og rfl (op_assign rfl rfl rfl)) ?_
  refine rg_done rfl ?_
  refine a_rseq ?_
  refine rg_put (d := 10) (v := .d (.fl (.int .i64 (ckL w)))) rfl (og rfl (op_move rfl rfl rfl)) ?_
  refine rg_put (d := 11) (v := .d (.fl (.bool (((ckL w) != 0))))) rfl (og rfl (op_bin rfl rfl rfl (b_neq _ _ _ _) rfl)) ?_
  refine rg_done rfl ?_
  refine a_cond rfl (fun h1 => ?_) (fun h1 => ?_)
  · skip
    have h2 := t_bne h1
    refine a_rseq ?_
    refine rg_put (d := 12) (v := .d (.fl (.int .i64 (ckL w)))) rfl (og rfl (op_move rfl rfl rfl)) ?_
    refine rg_put (d := 6) (v := .d (.fl (.int .i64 (ckL w)))) rfl (og rfl (op_assign rfl rfl rfl)) ?_
    refine rg_done rfl ?_
    refine a_ret ?_
    show ∃ ds, ResL _ _ _ ds ∧ RV.of ds = _
    refine ⟨[.fl (.int .i64 (ckL w))], (.cons (.tmp rfl (.d _)) .nil), ?_⟩
    have hu : chD w x day = (ckL w) := by
      unfold chD; rw [if_pos h1]
    rw [hu]; rfl
  · skip
    have h3 := f_bne h1
    refine a_skip ?_
    show A _ _ _ _ _ _ _
    refine a_seq ?_
    refine a_block ?_
    refine a_rseq ?_
    refine rg_put (d := 14) (v := .d (.ag (eCs x))) rfl (og rfl (of_eff (s_load_pts rfl Tryd.underlying32 rfl ti32 rfl rfl rfl rfl) rfl)) ?_
    refine rg_put (d := 15) (v := .d (.fl (.bool (opn x)))) rfl (og rfl (op_call rfl Tryd.func13 nm13 rfl (.cons rfl (.d _) .nil) (opn21 x) rfl)) ?_
    refine rg_put (d := 16) (v := .d (.fl (.bool ((!(opn x)))))) rfl (og rfl (op_un rfl rfl (u_not _) rfl)) ?_
    refine rg_put (d := 13) (v := .d (.fl (.bool ((!(opn x)))))) rfl (og rfl (op_assign rfl rfl rfl)) ?_
    refine rg_done rfl ?_
    refine a_cond rfl (fun h4 => ?_) (fun h4 => ?_)
    · skip
      have h5 := t_not h4
      refine a_rseq ?_
      refine rg_put (d := 6) (v := .d (.fl (.int .i64 28))) rfl (og rfl (op_assign rfl rfl rfl)) ?_
      refine rg_done rfl ?_
      refine a_ret ?_
      show ∃ ds, ResL _ _ _ ds ∧ RV.of ds = _
      refine ⟨[.fl (.int .i64 28)], (.cons (.tmp rfl (.d _)) .nil), ?_⟩
      have hu : chD w x day = 28 := by
        unfold chD; simp only [h1, h4, h5]; rfl
      rw [hu]; rfl
    · skip
      have h6 := f_not h4
      refine a_rseq ?_
      refine rg_put (d := 18) (v := .d (.ag (eCs x))) rfl (og rfl (of_eff (s_load_pts rfl Tryd.underlying32 rfl ti32 rfl rfl rfl rfl) rfl)) ?_
      refine rg_put (d := 19) (v := .d (.fl (.bool (pend x)))) rfl (og rfl (op_call rfl Tryd.func12 nm12 rfl (.cons rfl (.d _) .nil) (pend17 x) rfl)) ?_
      refine rg_put (d := 20) (v := .d (.fl (.bool ((!(pend x)))))) rfl (og rfl (op_un rfl rfl (u_not _) rfl)) ?_
      refine rg_put (d := 17) (v := .d (.fl (.bool ((!(pend x)))))) rfl (og rfl (op_assign rfl rfl rfl)) ?_
      refine rg_done rfl ?_
      refine a_cond rfl (fun h7 => ?_) (fun h7 => ?_)
      · skip
        have h8 := t_not h7
        refine a_rseq ?_
        refine rg_put (d := 6) (v := .d (.fl (.int .i64 11))) rfl (og rfl (op_assign rfl rfl rfl)) ?_
        refine rg_done rfl ?_
        refine a_ret ?_
        show ∃ ds, ResL _ _ _ ds ∧ RV.of ds = _
        refine ⟨[.fl (.int .i64 11)], (.cons (.tmp rfl (.d _)) .nil), ?_⟩
        have hu : chD w x day = 11 := by
          unfold chD; simp only [h1, h4, h6, h7, h8]; rfl
        rw [hu]; rfl
      · skip
        have h9 := f_not h7
        refine a_rseq ?_
        refine rg_put (d := 22) (v := .d (.fl (.int .i64 day))) rfl (og rfl (op_move rfl rfl rfl)) ?_
        refine rg_put (d := 23) (v := .d (.fl (.bool (isD day)))) rfl (og rfl (op_call rfl Tryd.func28 nm28 rfl (.cons rfl (.d _) .nil) (isD42 day) rfl)) ?_
        refine rg_put (d := 24) (v := .d (.fl (.bool ((!(isD day)))))) rfl (og rfl (op_un rfl rfl (u_not _) rfl)) ?_
        refine rg_put (d := 25) (v := .d (.fl (.bool ((!(isD day)))))) rfl (og rfl (op_move rfl rfl rfl)) ?_
        rcases fot ((!(isD day))) with h10 | h10
        · skip
          have h11 := f_not h10
          refine rg_put (d := 26) (v := .pt 102 9) rfl (oy rfl rfl rfl h10 (of_eff (s_field_pt rfl Tryd.underlying32 rfl ti30 rfl rfl rfl) rfl)) ?_
          refine rg_put (d := 27) (v := .pt 102 11) rfl (oy rfl rfl rfl h10 (of_eff (s_field_pt rfl Tryd.underlying30 rfl ti3 rfl rfl rfl) rfl)) ?_
          refine rg_put (d := 28) (v := .d (.fl (.int .i64 x.ap.day))) rfl (oy rfl rfl rfl h10 (op_load_pt rfl Tryd.underlying3 rfl rfl rfl rfl rfl)) ?_
          refine rg_put (d := 29) (v := .d (.fl (.bool (isD x.ap.day)))) rfl (oy rfl rfl rfl h10 (op_call rfl Tryd.func28 nm28 rfl (.cons rfl (.d _) .nil) (isD42 x.ap.day) rfl)) ?_
          refine rg_put (d := 30) (v := .d (.fl (.bool ((!(isD x.ap.day)))))) rfl (oy rfl rfl rfl h10 (op_un rfl rfl (u_not _) rfl)) ?_
          refine rg_put (d := 31) (v := .d (.fl (.bool ((!(isD x.ap.day)))))) rfl (og rfl (op_pick rfl rfl (by rw [h10]; rfl) rfl)) ?_
          refine rg_put (d := 32) (v := .d (.fl (.bool ((!(isD x.ap.day)))))) rfl (og rfl (op_move rfl rfl rfl)) ?_
          rcases fot ((!(isD x.ap.day))) with h12 | h12
          · skip
            have h13 := f_not h12
            refine rg_put (d := 33) (v := .pt 102 3) rfl (oy rfl rfl rfl h12 (of_eff (s_field_pt rfl Tryd.underlying32 rfl ti3 rfl rfl rfl) rfl)) ?_
            refine rg_put (d := 34) (v := .d (.fl (.int .i64 x.begun))) rfl (oy rfl rfl rfl h12 (op_load_pt rfl Tryd.underlying3 rfl rfl rfl rfl rfl)) ?_
            refine rg_put (d := 35) (v := .d (.fl (.bool (isD x.begun)))) rfl (oy rfl rfl rfl h12 (op_call rfl Tryd.func28 nm28 rfl (.cons rfl (.d _) .nil) (isD42 x.begun) rfl)) ?_
            refine rg_put (d := 36) (v := .d (.fl (.bool ((!(isD x.begun)))))) rfl (oy rfl rfl rfl h12 (op_un rfl rfl (u_not _) rfl)) ?_
            refine rg_put (d := 37) (v := .d (.fl (.bool ((!(isD x.begun)))))) rfl (og rfl (op_pick rfl rfl (by rw [h12]; rfl) rfl)) ?_
            refine rg_put (d := 38) (v := .d (.fl (.bool ((!(isD x.begun)))))) rfl (og rfl (op_move rfl rfl rfl)) ?_
            rcases fot ((!(isD x.begun))) with h14 | h14
            · skip
              have h15 := f_not h14
              refine rg_put (d := 39) (v := .pt 102 4) rfl (oy rfl rfl rfl h14 (of_eff (s_field_pt rfl Tryd.underlying32 rfl ti3 rfl rfl rfl) rfl)) ?_
              refine rg_put (d := 40) (v := .d (.fl (.int .i64 x.since))) rfl (oy rfl rfl rfl h14 (op_load_pt rfl Tryd.underlying3 rfl rfl rfl rfl rfl)) ?_
              refine rg_put (d := 41) (v := .d (.fl (.bool (isD x.since)))) rfl (oy rfl rfl rfl h14 (op_call rfl Tryd.func28 nm28 rfl (.cons rfl (.d _) .nil) (isD42 x.since) rfl)) ?_
              refine rg_put (d := 42) (v := .d (.fl (.bool ((!(isD x.since)))))) rfl (oy rfl rfl rfl h14 (op_un rfl rfl (u_not _) rfl)) ?_
              refine rg_put (d := 43) (v := .d (.fl (.bool ((!(isD x.since)))))) rfl (og rfl (op_pick rfl rfl (by rw [h14]; rfl) rfl)) ?_
              refine rg_put (d := 44) (v := .d (.fl (.bool ((!(isD x.since)))))) rfl (og rfl (op_move rfl rfl rfl)) ?_
              rcases fot ((!(isD x.since))) with h16 | h16
              · skip
                have h17 := f_not h16
                refine rg_put (d := 45) (v := .pt 102 8) rfl (oy rfl rfl rfl h16 (of_eff (s_field_pt rfl Tryd.underlying32 rfl ti3 rfl rfl rfl) rfl)) ?_
                refine rg_put (d := 46) (v := .d (.fl (.int .i64 x.paused))) rfl (oy rfl rfl rfl h16 (op_load_pt rfl Tryd.underlying3 rfl rfl rfl rfl rfl)) ?_
                refine rg_put (d := 47) (v := .d (.fl (.bool ((decide (x.paused < 0)))))) rfl (oy rfl rfl rfl h16 (op_bin rfl rfl rfl (b_lss _ _ _ _) rfl)) ?_
                refine rg_put (d := 48) (v := .d (.fl (.bool ((decide (x.paused < 0)))))) rfl (og rfl (op_pick rfl rfl (by rw [h16]; rfl) rfl)) ?_
                refine rg_put (d := 49) (v := .d (.fl (.bool ((decide (x.paused < 0)))))) rfl (og rfl (op_move rfl rfl rfl)) ?_
                rcases fot ((decide (x.paused < 0))) with h18 | h18
                · skip
                  have h19 := f_dec h18
                  refine rg_put (d := 50) (v := .pt 102 8) rfl (oy rfl rfl rfl h18 (of_eff (s_field_pt rfl Tryd.underlying32 rfl ti3 rfl rfl rfl) rfl)) ?_
                  refine rg_put (d := 51) (v := .d (.fl (.int .i64 x.paused))) rfl (oy rfl rfl rfl h18 (op_load_pt rfl Tryd.underlying3 rfl rfl rfl rfl rfl)) ?_
                  refine rg_put (d := 52) (v := .d (.fl (.bool ((decide (795364 < x.paused)))))) rfl (oy rfl rfl rfl h18 (op_bin rfl rfl rfl (b_gtr _ _ _ _) rfl)) ?_
                  refine rg_put (d := 53) (v := .d (.fl (.bool ((decide (795364 < x.paused)))))) rfl (og rfl (op_pick rfl rfl (by rw [h18]; rfl) rfl)) ?_
                  refine rg_put (d := 21) (v := .d (.fl (.bool ((decide (795364 < x.paused)))))) rfl (og rfl (op_assign rfl rfl rfl)) ?_
                  refine rg_done rfl ?_
                  refine a_cond rfl (fun h20 => ?_) (fun h20 => ?_)
                  · skip
                    have h21 := t_dec h20
                    refine a_rseq ?_
                    refine rg_put (d := 6) (v := .d (.fl (.int .i64 12))) rfl (og rfl (op_assign rfl rfl rfl)) ?_
                    refine rg_done rfl ?_
                    refine a_ret ?_
                    show ∃ ds, ResL _ _ _ ds ∧ RV.of ds = _
                    refine ⟨[.fl (.int .i64 12)], (.cons (.tmp rfl (.d _)) .nil), ?_⟩
                    have hu : chD w x day = 12 := by
                      unfold chD; simp only [h1, h4, h6, h7, h9, h10, h11, h12, h13, h14, h15, h16, h17, h18, h20]; rfl
                    rw [hu]; rfl
                  · skip
                    have h22 := f_dec h20
                    refine a_rseq ?_
                    refine rg_put (d := 55) (v := .pt 102 9) rfl (og rfl (of_eff (s_field_pt rfl Tryd.underlying32 rfl ti30 rfl rfl rfl) rfl)) ?_
                    refine rg_put (d := 56) (v := .pt 102 11) rfl (og rfl (of_eff (s_field_pt rfl Tryd.underlying30 rfl ti3 rfl rfl rfl) rfl)) ?_
                    refine rg_put (d := 57) (v := .d (.fl (.int .i64 x.ap.day))) rfl (og rfl (op_load_pt rfl Tryd.underlying3 rfl rfl rfl rfl rfl)) ?_
                    refine rg_put (d := 58) (v := .pt 102 4) rfl (og rfl (of_eff (s_field_pt rfl Tryd.underlying32 rfl ti3 rfl rfl rfl) rfl)) ?_
                    refine rg_put (d := 59) (v := .d (.fl (.int .i64 x.since))) rfl (og rfl (op_load_pt rfl Tryd.underlying3 rfl rfl rfl rfl rfl)) ?_
                    refine rg_put (d := 60) (v := .d (.fl (.bool ((decide (x.ap.day < x.since)))))) rfl (og rfl (op_bin rfl rfl rfl (b_lss _ _ _ _) rfl)) ?_
                    refine rg_put (d := 61) (v := .d (.fl (.bool ((decide (x.ap.day < x.since)))))) rfl (og rfl (op_move rfl rfl rfl)) ?_
                    rcases fot ((decide (x.ap.day < x.since))) with h23 | h23
                    · skip
                      have h24 := f_dec h23
                      refine rg_put (d := 62) (v := .d (.fl (.int .i64 day))) rfl (oy rfl rfl rfl h23 (op_move rfl rfl rfl)) ?_
                      refine rg_put (d := 63) (v := .pt 102 9) rfl (oy rfl rfl rfl h23 (of_eff (s_field_pt rfl Tryd.underlying32 rfl ti30 rfl rfl rfl) rfl)) ?_
                      refine rg_put (d := 64) (v := .pt 102 11) rfl (oy rfl rfl rfl h23 (of_eff (s_field_pt rfl Tryd.underlying30 rfl ti3 rfl rfl rfl) rfl)) ?_
                      refine rg_put (d := 65) (v := .d (.fl (.int .i64 x.ap.day))) rfl (oy rfl rfl rfl h23 (op_load_pt rfl Tryd.underlying3 rfl rfl rfl rfl rfl)) ?_
                      refine rg_put (d := 66) (v := .d (.fl (.bool ((decide (day < x.ap.day)))))) rfl (oy rfl rfl rfl h23 (op_bin rfl rfl rfl (b_lss _ _ _ _) rfl)) ?_
                      refine rg_put (d := 67) (v := .d (.fl (.bool ((decide (day < x.ap.day)))))) rfl (og rfl (op_pick rfl rfl (by rw [h23]; rfl) rfl)) ?_
                      refine rg_put (d := 54) (v := .d (.fl (.bool ((decide (day < x.ap.day)))))) rfl (og rfl (op_assign rfl rfl rfl)) ?_
                      refine rg_done rfl ?_
                      refine a_cond rfl (fun h25 => ?_) (fun h25 => ?_)
                      · skip
                        have h26 := t_dec h25
                        refine a_rseq ?_
                        refine rg_put (d := 6) (v := .d (.fl (.int .i64 15))) rfl (og rfl (op_assign rfl rfl rfl)) ?_
                        refine rg_done rfl ?_
                        refine a_ret ?_
                        show ∃ ds, ResL _ _ _ ds ∧ RV.of ds = _
                        refine ⟨[.fl (.int .i64 15)], (.cons (.tmp rfl (.d _)) .nil), ?_⟩
                        have hu : chD w x day = 15 := by
                          unfold chD; simp only [h1, h4, h6, h7, h9, h10, h11, h12, h13, h14, h15, h16, h17, h18, h20, h23, h25]; rfl
                        rw [hu]; rfl
                      · skip
                        have h27 := f_dec h25
                        refine a_skip ?_
                        show A _ _ _ _ _ _ _
                        refine a_rseq ?_
                        refine rg_put (d := 6) (v := .d (.fl (.int .i64 0))) rfl (og rfl (op_assign rfl rfl rfl)) ?_
                        refine rg_done rfl ?_
                        refine a_ret ?_
                        show ∃ ds, ResL _ _ _ ds ∧ RV.of ds = _
                        refine ⟨[.fl (.int .i64 0)], (.cons (.tmp rfl (.d _)) .nil), ?_⟩
                        have hu : chD w x day = 0 := by
                          unfold chD; simp only [h1, h4, h6, h7, h9, h10, h11, h12, h13, h14, h15, h16, h17, h18, h20, h23, h25]; rfl
                        rw [hu]; rfl
                    · skip
                      have h28 := t_dec h23
                      refine rg_put (d := 62) (v := .d (.fl undef)) rfl (on rfl rfl rfl h23) ?_
                      refine rg_put (d := 63) (v := .d (.fl undef)) rfl (on rfl rfl rfl h23) ?_
                      refine rg_put (d := 64) (v := .d (.fl undef)) rfl (on rfl rfl rfl h23) ?_
                      refine rg_put (d := 65) (v := .d (.fl undef)) rfl (on rfl rfl rfl h23) ?_
                      refine rg_put (d := 66) (v := .d (.fl undef)) rfl (on rfl rfl rfl h23) ?_
                      refine rg_put (d := 67) (v := .d (.fl (.bool true))) rfl (og rfl (op_pick rfl rfl (by rw [h23]; rfl) rfl)) ?_
                      refine rg_put (d := 54) (v := .d (.fl (.bool true))) rfl (og rfl (op_assign rfl rfl rfl)) ?_
                      refine rg_done rfl ?_
                      refine a_condK rfl rfl ?_
                      refine a_rseq ?_
                      refine rg_put (d := 6) (v := .d (.fl (.int .i64 15))) rfl (og rfl (op_assign rfl rfl rfl)) ?_
                      refine rg_done rfl ?_
                      refine a_ret ?_
                      show ∃ ds, ResL _ _ _ ds ∧ RV.of ds = _
                      refine ⟨[.fl (.int .i64 15)], (.cons (.tmp rfl (.d _)) .nil), ?_⟩
                      have hu : chD w x day = 15 := by
                        unfold chD; simp only [h1, h4, h6, h7, h9, h10, h11, h12, h13, h14, h15, h16, h17, h18, h20, h23]; rfl
                      rw [hu]; rfl
                · skip
                  have h29 := t_dec h18
                  refine rg_put (d := 50) (v := .d (.fl undef)) rfl (on rfl rfl rfl h18) ?_
                  refine rg_put (d := 51) (v := .d (.fl undef)) rfl (on rfl rfl rfl h18) ?_
                  refine rg_put (d := 52) (v := .d (.fl undef)) rfl (on rfl rfl rfl h18) ?_
                  refine rg_put (d := 53) (v := .d (.fl (.bool true))) rfl (og rfl (op_pick rfl rfl (by rw [h18]; rfl) rfl)) ?_
                  refine rg_put (d := 21) (v := .d (.fl (.bool true))) rfl (og rfl (op_assign rfl rfl rfl)) ?_
                  refine rg_done rfl ?_
                  refine a_condK rfl rfl ?_
                  refine a_rseq ?_
                  refine rg_put (d := 6) (v := .d (.fl (.int .i64 12))) rfl (og rfl (op_assign rfl rfl rfl)) ?_
                  refine rg_done rfl ?_
                  refine a_ret ?_
                  show ∃ ds, ResL _ _ _ ds ∧ RV.of ds = _
                  refine ⟨[.fl (.int .i64 12)], (.cons (.tmp rfl (.d _)) .nil), ?_⟩
                  have hu : chD w x day = 12 := by
                    unfold chD; simp only [h1, h4, h6, h7, h9, h10, h11, h12, h13, h14, h15, h16, h17, h18]; rfl
                  rw [hu]; rfl
              · skip
                have h30 := t_not h16
                refine rg_put (d := 45) (v := .d (.fl undef)) rfl (on rfl rfl rfl h16) ?_
                refine rg_put (d := 46) (v := .d (.fl undef)) rfl (on rfl rfl rfl h16) ?_
                refine rg_put (d := 47) (v := .d (.fl undef)) rfl (on rfl rfl rfl h16) ?_
                refine rg_put (d := 48) (v := .d (.fl (.bool true))) rfl (og rfl (op_pick rfl rfl (by rw [h16]; rfl) rfl)) ?_
                refine rg_put (d := 49) (v := .d (.fl (.bool true))) rfl (og rfl (op_move rfl rfl rfl)) ?_
                refine rg_put (d := 50) (v := .d (.fl undef)) rfl (on rfl rfl rfl rfl) ?_
                refine rg_put (d := 51) (v := .d (.fl undef)) rfl (on rfl rfl rfl rfl) ?_
                refine rg_put (d := 52) (v := .d (.fl undef)) rfl (on rfl rfl rfl rfl) ?_
                refine rg_put (d := 53) (v := .d (.fl (.bool true))) rfl (og rfl (op_pick rfl rfl rfl rfl)) ?_
                refine rg_put (d := 21) (v := .d (.fl (.bool true))) rfl (og rfl (op_assign rfl rfl rfl)) ?_
                refine rg_done rfl ?_
                refine a_condK rfl rfl ?_
                refine a_rseq ?_
                refine rg_put (d := 6) (v := .d (.fl (.int .i64 12))) rfl (og rfl (op_assign rfl rfl rfl)) ?_
                refine rg_done rfl ?_
                refine a_ret ?_
                show ∃ ds, ResL _ _ _ ds ∧ RV.of ds = _
                refine ⟨[.fl (.int .i64 12)], (.cons (.tmp rfl (.d _)) .nil), ?_⟩
                have hu : chD w x day = 12 := by
                  unfold chD; simp only [h1, h4, h6, h7, h9, h10, h11, h12, h13, h14, h15, h16, h30]; rfl
                rw [hu]; rfl
            · skip
              have h31 := t_not h14
              refine rg_put (d := 39) (v := .d (.fl undef)) rfl (on rfl rfl rfl h14) ?_
              refine rg_put (d := 40) (v := .d (.fl undef)) rfl (on rfl rfl rfl h14) ?_
              refine rg_put (d := 41) (v := .d (.fl undef)) rfl (on rfl rfl rfl h14) ?_
              refine rg_put (d := 42) (v := .d (.fl undef)) rfl (on rfl rfl rfl h14) ?_
              refine rg_put (d := 43) (v := .d (.fl (.bool true))) rfl (og rfl (op_pick rfl rfl (by rw [h14]; rfl) rfl)) ?_
              refine rg_put (d := 44) (v := .d (.fl (.bool true))) rfl (og rfl (op_move rfl rfl rfl)) ?_
              refine rg_put (d := 45) (v := .d (.fl undef)) rfl (on rfl rfl rfl rfl) ?_
              refine rg_put (d := 46) (v := .d (.fl undef)) rfl (on rfl rfl rfl rfl) ?_
              refine rg_put (d := 47) (v := .d (.fl undef)) rfl (on rfl rfl rfl rfl) ?_
              refine rg_put (d := 48) (v := .d (.fl (.bool true))) rfl (og rfl (op_pick rfl rfl rfl rfl)) ?_
              refine rg_put (d := 49) (v := .d (.fl (.bool true))) rfl (og rfl (op_move rfl rfl rfl)) ?_
              refine rg_put (d := 50) (v := .d (.fl undef)) rfl (on rfl rfl rfl rfl) ?_
              refine rg_put (d := 51) (v := .d (.fl undef)) rfl (on rfl rfl rfl rfl) ?_
              refine rg_put (d := 52) (v := .d (.fl undef)) rfl (on rfl rfl rfl rfl) ?_
              refine rg_put (d := 53) (v := .d (.fl (.bool true))) rfl (og rfl (op_pick rfl rfl rfl rfl)) ?_
              refine rg_put (d := 21) (v := .d (.fl (.bool true))) rfl (og rfl (op_assign rfl rfl rfl)) ?_
              refine rg_done rfl ?_
              refine a_condK rfl rfl ?_
              refine a_rseq ?_
              refine rg_put (d := 6) (v := .d (.fl (.int .i64 12))) rfl (og rfl (op_assign rfl rfl rfl)) ?_
              refine rg_done rfl ?_
              refine a_ret ?_
              show ∃ ds, ResL _ _ _ ds ∧ RV.of ds = _
              refine ⟨[.fl (.int .i64 12)], (.cons (.tmp rfl (.d _)) .nil), ?_⟩
              have hu : chD w x day = 12 := by
                unfold chD; simp only [h1, h4, h6, h7, h9, h10, h11, h12, h13, h14, h31]; rfl
              rw [hu]; rfl
          · skip
            have h32 := t_not h12
            refine rg_put (d := 33) (v := .d (.fl undef)) rfl (on rfl rfl rfl h12) ?_
            refine rg_put (d := 34) (v := .d (.fl undef)) rfl (on rfl rfl rfl h12) ?_
            refine rg_put (d := 35) (v := .d (.fl undef)) rfl (on rfl rfl rfl h12) ?_
            refine rg_put (d := 36) (v := .d (.fl undef)) rfl (on rfl rfl rfl h12) ?_
            refine rg_put (d := 37) (v := .d (.fl (.bool true))) rfl (og rfl (op_pick rfl rfl (by rw [h12]; rfl) rfl)) ?_
            refine rg_put (d := 38) (v := .d (.fl (.bool true))) rfl (og rfl (op_move rfl rfl rfl)) ?_
            refine rg_put (d := 39) (v := .d (.fl undef)) rfl (on rfl rfl rfl rfl) ?_
            refine rg_put (d := 40) (v := .d (.fl undef)) rfl (on rfl rfl rfl rfl) ?_
            refine rg_put (d := 41) (v := .d (.fl undef)) rfl (on rfl rfl rfl rfl) ?_
            refine rg_put (d := 42) (v := .d (.fl undef)) rfl (on rfl rfl rfl rfl) ?_
            refine rg_put (d := 43) (v := .d (.fl (.bool true))) rfl (og rfl (op_pick rfl rfl rfl rfl)) ?_
            refine rg_put (d := 44) (v := .d (.fl (.bool true))) rfl (og rfl (op_move rfl rfl rfl)) ?_
            refine rg_put (d := 45) (v := .d (.fl undef)) rfl (on rfl rfl rfl rfl) ?_
            refine rg_put (d := 46) (v := .d (.fl undef)) rfl (on rfl rfl rfl rfl) ?_
            refine rg_put (d := 47) (v := .d (.fl undef)) rfl (on rfl rfl rfl rfl) ?_
            refine rg_put (d := 48) (v := .d (.fl (.bool true))) rfl (og rfl (op_pick rfl rfl rfl rfl)) ?_
            refine rg_put (d := 49) (v := .d (.fl (.bool true))) rfl (og rfl (op_move rfl rfl rfl)) ?_
            refine rg_put (d := 50) (v := .d (.fl undef)) rfl (on rfl rfl rfl rfl) ?_
            refine rg_put (d := 51) (v := .d (.fl undef)) rfl (on rfl rfl rfl rfl) ?_
            refine rg_put (d := 52) (v := .d (.fl undef)) rfl (on rfl rfl rfl rfl) ?_
            refine rg_put (d := 53) (v := .d (.fl (.bool true))) rfl (og rfl (op_pick rfl rfl rfl rfl)) ?_
            refine rg_put (d := 21) (v := .d (.fl (.bool true))) rfl (og rfl (op_assign rfl rfl rfl)) ?_
            refine rg_done rfl ?_
            refine a_condK rfl rfl ?_
            refine a_rseq ?_
            refine rg_put (d := 6) (v := .d (.fl (.int .i64 12))) rfl (og rfl (op_assign rfl rfl rfl)) ?_
            refine rg_done rfl ?_
            refine a_ret ?_
            show ∃ ds, ResL _ _ _ ds ∧ RV.of ds = _
            refine ⟨[.fl (.int .i64 12)], (.cons (.tmp rfl (.d _)) .nil), ?_⟩
            have hu : chD w x day = 12 := by
              unfold chD; simp only [h1, h4, h6, h7, h9, h10, h11, h12, h32]; rfl
            rw [hu]; rfl
        · skip
          have h33 := t_not h10
          refine rg_put (d := 26) (v := .d (.fl undef)) rfl (on rfl rfl rfl h10) ?_
          refine rg_put (d := 27) (v := .d (.fl undef)) rfl (on rfl rfl rfl h10) ?_
          refine rg_put (d := 28) (v := .d (.fl undef)) rfl (on rfl rfl rfl h10) ?_
          refine rg_put (d := 29) (v := .d (.fl undef)) rfl (on rfl rfl rfl h10) ?_
          refine rg_put (d := 30) (v := .d (.fl undef)) rfl (on rfl rfl rfl h10) ?_
          refine rg_put (d := 31) (v := .d (.fl (.bool true))) rfl (og rfl (op_pick rfl rfl (by rw [h10]; rfl) rfl)) ?_
          refine rg_put (d := 32) (v := .d (.fl (.bool true))) rfl (og rfl (op_move rfl rfl rfl)) ?_
          refine rg_put (d := 33) (v := .d (.fl undef)) rfl (on rfl rfl rfl rfl) ?_
          refine rg_put (d := 34) (v := .d (.fl undef)) rfl (on rfl rfl rfl rfl) ?_
          refine rg_put (d := 35) (v := .d (.fl undef)) rfl (on rfl rfl rfl rfl) ?_
          refine rg_put (d := 36) (v := .d (.fl undef)) rfl (on rfl rfl rfl rfl) ?_
          refine rg_put (d := 37) (v := .d (.fl (.bool true))) rfl (og rfl (op_pick rfl rfl rfl rfl)) ?_
          refine rg_put (d := 38) (v := .d (.fl (.bool true))) rfl (og rfl (op_move rfl rfl rfl)) ?_
          refine rg_put (d := 39) (v := .d (.fl undef)) rfl (on rfl rfl rfl rfl) ?_
          refine rg_put (d := 40) (v := .d (.fl undef)) rfl (on rfl rfl rfl rfl) ?_
          refine rg_put (d := 41) (v := .d (.fl undef)) rfl (on rfl rfl rfl rfl) ?_
          refine rg_put (d := 42) (v := .d (.fl undef)) rfl (on rfl rfl rfl rfl) ?_
          refine rg_put (d := 43) (v := .d (.fl (.bool true))) rfl (og rfl (op_pick rfl rfl rfl rfl)) ?_
          refine rg_put (d := 44) (v := .d (.fl (.bool true))) rfl (og rfl (op_move rfl rfl rfl)) ?_
          refine rg_put (d := 45) (v := .d (.fl undef)) rfl (on rfl rfl rfl rfl) ?_
          refine rg_put (d := 46) (v := .d (.fl undef)) rfl (on rfl rfl rfl rfl) ?_
          refine rg_put (d := 47) (v := .d (.fl undef)) rfl (on rfl rfl rfl rfl) ?_
          refine rg_put (d := 48) (v := .d (.fl (.bool true))) rfl (og rfl (op_pick rfl rfl rfl rfl)) ?_
          refine rg_put (d := 49) (v := .d (.fl (.bool true))) rfl (og rfl (op_move rfl rfl rfl)) ?_
          refine rg_put (d := 50) (v := .d (.fl undef)) rfl (on rfl rfl rfl rfl) ?_
          refine rg_put (d := 51) (v := .d (.fl undef)) rfl (on rfl rfl rfl rfl) ?_
          refine rg_put (d := 52) (v := .d (.fl undef)) rfl (on rfl rfl rfl rfl) ?_
          refine rg_put (d := 53) (v := .d (.fl (.bool true))) rfl (og rfl (op_pick rfl rfl rfl rfl)) ?_
          refine rg_put (d := 21) (v := .d (.fl (.bool true))) rfl (og rfl (op_assign rfl rfl rfl)) ?_
          refine rg_done rfl ?_
          refine a_condK rfl rfl ?_
          refine a_rseq ?_
          refine rg_put (d := 6) (v := .d (.fl (.int .i64 12))) rfl (og rfl (op_assign rfl rfl rfl)) ?_
          refine rg_done rfl ?_
          refine a_ret ?_
          show ∃ ds, ResL _ _ _ ds ∧ RV.of ds = _
          refine ⟨[.fl (.int .i64 12)], (.cons (.tmp rfl (.d _)) .nil), ?_⟩
          have hu : chD w x day = 12 := by
            unfold chD; simp only [h1, h4, h6, h7, h9, h10, h33]; rfl
          rw [hu]; rfl
end Go.Proofs.YtdafmaocbkmmgaaDoor.Wk
