/- The check of a topology, both sides. No condition. -/
import Derived.Test.YtjbhikldmaljaaaB1
set_option linter.unusedSimpArgs false
set_option linter.unusedVariables false
namespace Go.Proofs.Ytjbhikldmaljaaa.Wk
open Go Go.RowKit Go.Proofs.Ytjbhikldmaljaaa.Av
theorem mfind_mapS {α : Type} (key : α → ByteArray) (val : α → DV) (p : ByteArray) : ∀ l : List α, mfind .string (.string p) (l.map fun x => (Value.string (key x), val x)) = some ((l.find? fun x => sEq (key x) p).map val)
  | [] => rfl
  | x :: l => by
    have ih := mfind_mapS key val p l
    have hb : Instr.sameNow .string (.string p) (.string (key x)) = some (sEq (key x) p) := by
      show some (p == key x) = _
      congr 1
      by_cases h : p = key x
      · rw [← h, show sEq p p = true by simp [sEq]]
        exact (MapKept.bytes_beq p p).2 rfl
      · rw [show sEq (key x) p = false from by simp [sEq, Ne.symm h]]
        cases hq : p == key x with
        | false => rfl
        | true => exact absurd ((MapKept.bytes_beq p (key x)).1 hq) h
    simp only [List.map_cons, mfind, hb]
    cases h : sEq (key x) p with
    | true => simp [h]
    | false => simp [h]; exact ih
def sF (l : List Sys) (s : ByteArray) : Option Sys := l.find? fun x => sEq x.name s
def setS (l : List Sys) : List (Value × DV) := l.map fun x => (Value.string x.name, DV.ag (eSys x))
theorem setS_take {l : List Sys} {k : Nat} (h : k < l.length) : setS (l.take k) ++ [(Value.string (ix l k).name, DV.ag (eSys (ix l k)))] = setS (l.take (k + 1)) := by unfold setS; rw [take_ix h, List.map_append]; rfl
noncomputable def sy1 (l : List Sys) (k : Nat) : Int := bif !(Nm.nmB (ix l k).name) then 6 else bif (sF (l.take k) (ix l k).name).isSome then 9 else bif ((decide ((ix l k).most < 0) || decide (2147483648 < (ix l k).most)) || ((ix l k).closed && ((ix l k).most == 0))) then 12 else 0
noncomputable def syE (l : List Sys) : Int := fe (sy1 l) 0 l.length
def okP (p : Pnt) (o : Option Sys) : Bool := bif p.kind == 4 then (o.isSome || sEq p.sys ⟨#[]⟩) else bif p.kind == 1 then (match o with | some s => !s.closed | none => false) else (match o with | some s => s.closed | none => false)
def bl (p : Pnt) (s : Sys) (b : Bool) : Bool := bif p.kind == 4 then (b || sEq p.sys ⟨#[]⟩) else bif (p.kind == 2 || p.kind == 3) then (b && s.closed) else (b && !s.closed)
theorem bl_some {p : Pnt} {s : Sys} (h : 1 ≤ p.kind ∧ p.kind ≤ 4) : bl p s true = okP p (some s) := by
  obtain ⟨h1, h2⟩ := h
  rcases (by omega : p.kind = 1 ∨ p.kind = 2 ∨ p.kind = 3 ∨ p.kind = 4) with h | h | h | h <;> simp [bl, okP, h]
theorem bl_none {p : Pnt} {s : Sys} (h : 1 ≤ p.kind ∧ p.kind ≤ 4) : bl p s false = okP p none := by
  obtain ⟨h1, h2⟩ := h
  rcases (by omega : p.kind = 1 ∨ p.kind = 2 ∨ p.kind = 3 ∨ p.kind = 4) with h | h | h | h <;> simp [bl, okP, h]
def pe1 (t : Tpg) (k : Nat) : Int := bif okP (ix t.net.pts k) (sF t.syss (ix t.net.pts k).sys) then 0 else 16
def peE (t : Tpg) : Int := fe (pe1 t) 0 t.net.pts.length
noncomputable def tck (t : Tpg) : Int := bif gck t.net != 0 then gck t.net else bif decide (64 < (t.syss.length : Int)) then 3 else bif syE t.syss != 0 then syE t.syss else peE t
theorem tck_g {t : Tpg} (h : (gck t.net != 0) = true) : tck t = gck t.net := by unfold tck; rw [h]; rfl
theorem tck_l {t : Tpg} (h : (gck t.net != 0) = false) (h2 : decide (64 < (t.syss.length : Int)) = true) : tck t = 3 := by unfold tck; rw [h, h2]; rfl
theorem tck_s {t : Tpg} {c : Int} (h : (gck t.net != 0) = false) (h2 : decide (64 < (t.syss.length : Int)) = false) (h3 : syE t.syss = c) (hc : c ≠ 0) : tck t = c := by
  unfold tck; rw [h, h2, h3]; show (bif c != 0 then c else _) = c; rw [bne_iff_ne.2 hc]; rfl
theorem tck_p {t : Tpg} (h : (gck t.net != 0) = false) (h2 : decide (64 < (t.syss.length : Int)) = false) (h3 : syE t.syss = 0) : tck t = peE t := by unfold tck; rw [h, h2, h3]; rfl
theorem fe_zero {f : Nat → Int} : ∀ {n i : Nat}, fe f i n = 0 → ∀ k, i ≤ k → k < i + n → f k = 0
  | 0, i, h, k, h1, h2 => by omega
  | n + 1, i, h, k, h1, h2 => by
    unfold fe at h
    split at h
    · rename_i h0
      rcases Nat.eq_or_lt_of_le h1 with e | e
      · subst e; exact h0
      · exact fe_zero h k (by omega) (by omega)
    · rename_i h0; exact absurd h h0
theorem gck_0 {n : Nwk} (h : gck n = 0) : n.pts.length ≤ 64 ∧ n.lks.length ≤ 128 ∧ (∀ k, k < n.pts.length → pt1 n.pts k = 0) ∧ ∀ k, k < n.lks.length → lk1 n.pts n.lks k = 0 := by
  unfold gck at h
  cases h1 : (decide (64 < (n.pts.length : Int)) || decide (128 < (n.lks.length : Int))) with
  | true => rw [h1] at h; cases h
  | false =>
    rw [h1] at h
    simp only [Bool.or_eq_false_iff, decide_eq_false_iff_not] at h1
    cases h2 : (ptE n.pts != 0) with
    | true => rw [h2] at h; exact absurd h (by simpa using h2)
    | false =>
      rw [h2] at h
      have h2' : ptE n.pts = 0 := by simpa using h2
      exact ⟨by omega, by omega, fun k hk => fe_zero h2' k (by omega) (by omega), fun k hk => fe_zero h k (by omega) (by omega)⟩
theorem pt_kind {l : List Pnt} {k : Nat} (h : pt1 l k = 0) : 1 ≤ (ix l k).kind ∧ (ix l k).kind ≤ 4 := by
  unfold pt1 at h
  cases h1 : Nm.nmB (ix l k).name with
  | false => rw [h1] at h; cases h
  | true =>
    cases h2 : dupP (l.take k) (ix l k).name with
    | true => rw [h1, h2] at h; cases h
    | false =>
      cases h3 : (decide ((ix l k).kind < 1) || decide (4 < (ix l k).kind)) with
      | true => rw [h1, h2, h3] at h; cases h
      | false => simp only [Bool.or_eq_false_iff, decide_eq_false_iff_not] at h3; omega
def fIx (l : List Sys) (s : ByteArray) : Int := match l.findIdx? (fun x => sEq x.name s) with
  | some i => (i : Int)
  | none => -1
set_option maxHeartbeats 4000000 in
set_option maxRecDepth 100000 in
theorem bl_c (p : Pnt) (s : Sys) (b : Bool) : Ctr Try.prog 14 [.ag (ePnt p), .ag (eSys s), .fl (.bool b)] (.d (.fl (.bool (bl p s b)))) := by
  refine ctr (n := 32) (rs := #[.tmp 6]) (L := [(0, .d (.ag (ePnt p))), (1, .d (.ag (eSys s))), (2, .d (.fl (.bool b)))]) Try.func14 rfl rfl rfl rfl rfl (fun w0 U0 => ?_)
  refine a_rseq ?_
  refine rg_nam (d := 3) (v := .pt 101 0) (m := 101) (nw := [(101, .bx 35 (ePnt p))]) rfl (og rfl (of_eff (op_box 101 rfl rfl rfl rfl) rfl)) rfl ?_
  refine rg_nam (d := 4) (v := .pt 102 0) (m := 102) (nw := [(102, .bx 40 (eSys s))]) rfl (og rfl (of_eff (op_box 102 rfl rfl rfl rfl) rfl)) rfl ?_
  refine rg_put (d := 6) (v := .d (.fl (.bool false))) rfl (og rfl (op_assign rfl rfl rfl)) ?_
  refine rg_done rfl ?_
  refine a_seq ?_
  refine a_rseq ?_
  refine rg_put (d := 7) (v := .pt 101 1) rfl (og rfl (of_eff (s_field_pt rfl Try.underlying35 rfl ti3 rfl rfl rfl) rfl)) ?_
  refine rg_put (d := 8) (v := .d (.fl (.int .i64 p.kind))) rfl (og rfl (op_load_pt rfl Try.underlying3 rfl rfl rfl rfl rfl)) ?_
  refine rg_done rfl ?_
  refine a_block ?_
  refine a_seq ?_
  refine a_block ?_
  refine a_block ?_
  refine a_seq ?_
  refine a_block ?_
  refine a_seq ?_
  refine a_seq ?_
  refine a_rseq ?_
  refine rg_put (d := 10) (v := .d (.fl (.bool (p.kind == 4)))) rfl (og rfl (op_bin rfl rfl rfl (b_eql _ _ _ _) rfl)) ?_
  refine rg_put (d := 9) (v := .d (.fl (.bool (p.kind == 4)))) rfl (og rfl (op_assign rfl rfl rfl)) ?_
  refine rg_done rfl ?_
  refine a_cond rfl (fun h1 => ?_) (fun h1 => ?_)
  · skip
    have h2 := t_beq h1
    refine a_exit ?_
    show A _ _ _ _ _ _ _
    refine a_seq ?_
    refine a_rseq ?_
    refine rg_put (d := 15) (v := .d (.fl (.bool b))) rfl (og rfl (op_move rfl rfl rfl)) ?_
    refine rg_put (d := 16) (v := .d (.fl (.bool b))) rfl (og rfl (op_move rfl rfl rfl)) ?_
    rcases fot b with h3 | h3
    · skip
      refine rg_put (d := 17) (v := .pt 101 2) rfl (oy rfl rfl rfl h3 (of_eff (s_field_pt rfl Try.underlying35 rfl ti9 rfl rfl rfl) rfl)) ?_
      refine rg_put (d := 18) (v := .d (.fl (.string p.sys))) rfl (oy rfl rfl rfl h3 (op_load_pt rfl Try.underlying9 rfl rfl rfl rfl rfl)) ?_
      refine rg_put (d := 19) (v := .d (.fl (.bool ((sEq p.sys (⟨#[]⟩)))))) rfl (oy rfl rfl rfl h3 (op_bin rfl rfl rfl (b_seq _ _ _) rfl)) ?_
      refine rg_put (d := 20) (v := .d (.fl (.bool ((sEq p.sys (⟨#[]⟩)))))) rfl (og rfl (op_pick rfl rfl (by rw [h3]; rfl) rfl)) ?_
      refine rg_put (d := 6) (v := .d (.fl (.bool ((sEq p.sys (⟨#[]⟩)))))) rfl (og rfl (op_assign rfl rfl rfl)) ?_
      refine rg_done rfl ?_
      refine a_ret ?_
      show ∃ ds, ResL _ _ _ ds ∧ RV.of ds = _
      refine ⟨[.fl (.bool ((sEq p.sys (⟨#[]⟩))))], (.cons (.tmp rfl (.d _)) .nil), ?_⟩
      first
        | (have hu : bl p s b = (sEq p.sys (⟨#[]⟩)) := by
            unfold bl; simp only [h1, h3, Bool.true_or, Bool.false_or, Bool.or_true, Bool.or_false, Bool.not_true, Bool.not_false, cond_true, cond_false, Bool.true_and, Bool.false_and, Bool.and_true, Bool.and_false] <;> rfl
           rw [hu]; rfl)
        | (exfalso; omega)
    · skip
      refine rg_put (d := 17) (v := .d (.fl undef)) rfl (on rfl rfl rfl h3) ?_
      refine rg_put (d := 18) (v := .d (.fl undef)) rfl (on rfl rfl rfl h3) ?_
      refine rg_put (d := 19) (v := .d (.fl undef)) rfl (on rfl rfl rfl h3) ?_
      refine rg_put (d := 20) (v := .d (.fl (.bool true))) rfl (og rfl (op_pick rfl rfl (by rw [h3]; rfl) rfl)) ?_
      refine rg_put (d := 6) (v := .d (.fl (.bool true))) rfl (og rfl (op_assign rfl rfl rfl)) ?_
      refine rg_done rfl ?_
      refine a_ret ?_
      show ∃ ds, ResL _ _ _ ds ∧ RV.of ds = _
      refine ⟨[.fl (.bool true)], (.cons (.tmp rfl (.d _)) .nil), ?_⟩
      first
        | (have hu : bl p s b = true := by
            unfold bl; simp only [h1, h3, Bool.true_or, Bool.false_or, Bool.or_true, Bool.or_false, Bool.not_true, Bool.not_false, cond_true, cond_false, Bool.true_and, Bool.false_and, Bool.and_true, Bool.and_false] <;> rfl
           rw [hu]; rfl)
        | (exfalso; omega)
  · skip
    have h4 := f_beq h1
    refine a_skip ?_
    show A _ _ _ _ _ _ _
    refine a_seq ?_
    refine a_rseq ?_
    refine rg_put (d := 12) (v := .d (.fl (.bool (p.kind == 2)))) rfl (og rfl (op_bin rfl rfl rfl (b_eql _ _ _ _) rfl)) ?_
    refine rg_put (d := 11) (v := .d (.fl (.bool (p.kind == 2)))) rfl (og rfl (op_assign rfl rfl rfl)) ?_
    refine rg_done rfl ?_
    refine a_cond rfl (fun h5 => ?_) (fun h5 => ?_)
    · skip
      have h6 := t_beq h5
      refine a_exit ?_
      show A _ _ _ _ _ _ _
      refine a_seq ?_
      refine a_rseq ?_
      refine rg_put (d := 21) (v := .d (.fl (.bool b))) rfl (og rfl (op_move rfl rfl rfl)) ?_
      refine rg_put (d := 22) (v := .d (.fl (.bool b))) rfl (og rfl (op_move rfl rfl rfl)) ?_
      rcases fot b with h7 | h7
      · skip
        refine rg_put (d := 23) (v := .d (.fl undef)) rfl (on rfl rfl rfl h7) ?_
        refine rg_put (d := 24) (v := .d (.fl undef)) rfl (on rfl rfl rfl h7) ?_
        refine rg_put (d := 25) (v := .d (.fl (.bool false))) rfl (og rfl (op_pick rfl rfl (by rw [h7]; rfl) rfl)) ?_
        refine rg_put (d := 6) (v := .d (.fl (.bool false))) rfl (og rfl (op_assign rfl rfl rfl)) ?_
        refine rg_done rfl ?_
        refine a_ret ?_
        show ∃ ds, ResL _ _ _ ds ∧ RV.of ds = _
        refine ⟨[.fl (.bool false)], (.cons (.tmp rfl (.d _)) .nil), ?_⟩
        first
          | (have hu : bl p s b = false := by
              unfold bl; simp only [h1, h5, h7, Bool.true_or, Bool.false_or, Bool.or_true, Bool.or_false, Bool.not_true, Bool.not_false, cond_true, cond_false, Bool.true_and, Bool.false_and, Bool.and_true, Bool.and_false] <;> rfl
             rw [hu]; rfl)
          | (exfalso; omega)
      · skip
        refine rg_put (d := 23) (v := .pt 102 1) rfl (oy rfl rfl rfl h7 (of_eff (s_field_pt rfl Try.underlying40 rfl ti4 rfl rfl rfl) rfl)) ?_
        refine rg_put (d := 24) (v := .d (.fl (.bool s.closed))) rfl (oy rfl rfl rfl h7 (op_load_pt rfl Try.underlying4 rfl rfl rfl rfl rfl)) ?_
        refine rg_put (d := 25) (v := .d (.fl (.bool s.closed))) rfl (og rfl (op_pick rfl rfl (by rw [h7]; rfl) rfl)) ?_
        refine rg_put (d := 6) (v := .d (.fl (.bool s.closed))) rfl (og rfl (op_assign rfl rfl rfl)) ?_
        refine rg_done rfl ?_
        refine a_ret ?_
        show ∃ ds, ResL _ _ _ ds ∧ RV.of ds = _
        refine ⟨[.fl (.bool s.closed)], (.cons (.tmp rfl (.d _)) .nil), ?_⟩
        first
          | (have hu : bl p s b = s.closed := by
              unfold bl; simp only [h1, h5, h7, Bool.true_or, Bool.false_or, Bool.or_true, Bool.or_false, Bool.not_true, Bool.not_false, cond_true, cond_false, Bool.true_and, Bool.false_and, Bool.and_true, Bool.and_false] <;> rfl
             rw [hu]; rfl)
          | (exfalso; omega)
    · skip
      have h8 := f_beq h5
      refine a_skip ?_
      show A _ _ _ _ _ _ _
      refine a_rseq ?_
      refine rg_put (d := 14) (v := .d (.fl (.bool (p.kind == 3)))) rfl (og rfl (op_bin rfl rfl rfl (b_eql _ _ _ _) rfl)) ?_
      refine rg_put (d := 13) (v := .d (.fl (.bool (p.kind == 3)))) rfl (og rfl (op_assign rfl rfl rfl)) ?_
      refine rg_done rfl ?_
      refine a_cond rfl (fun h9 => ?_) (fun h9 => ?_)
      · skip
        have h10 := t_beq h9
        refine a_exit ?_
        show A _ _ _ _ _ _ _
        refine a_seq ?_
        refine a_rseq ?_
        refine rg_put (d := 21) (v := .d (.fl (.bool b))) rfl (og rfl (op_move rfl rfl rfl)) ?_
        refine rg_put (d := 22) (v := .d (.fl (.bool b))) rfl (og rfl (op_move rfl rfl rfl)) ?_
        rcases fot b with h11 | h11
        · skip
          refine rg_put (d := 23) (v := .d (.fl undef)) rfl (on rfl rfl rfl h11) ?_
          refine rg_put (d := 24) (v := .d (.fl undef)) rfl (on rfl rfl rfl h11) ?_
          refine rg_put (d := 25) (v := .d (.fl (.bool false))) rfl (og rfl (op_pick rfl rfl (by rw [h11]; rfl) rfl)) ?_
          refine rg_put (d := 6) (v := .d (.fl (.bool false))) rfl (og rfl (op_assign rfl rfl rfl)) ?_
          refine rg_done rfl ?_
          refine a_ret ?_
          show ∃ ds, ResL _ _ _ ds ∧ RV.of ds = _
          refine ⟨[.fl (.bool false)], (.cons (.tmp rfl (.d _)) .nil), ?_⟩
          first
            | (have hu : bl p s b = false := by
                unfold bl; simp only [h1, h5, h9, h11, Bool.true_or, Bool.false_or, Bool.or_true, Bool.or_false, Bool.not_true, Bool.not_false, cond_true, cond_false, Bool.true_and, Bool.false_and, Bool.and_true, Bool.and_false] <;> rfl
               rw [hu]; rfl)
            | (exfalso; omega)
        · skip
          refine rg_put (d := 23) (v := .pt 102 1) rfl (oy rfl rfl rfl h11 (of_eff (s_field_pt rfl Try.underlying40 rfl ti4 rfl rfl rfl) rfl)) ?_
          refine rg_put (d := 24) (v := .d (.fl (.bool s.closed))) rfl (oy rfl rfl rfl h11 (op_load_pt rfl Try.underlying4 rfl rfl rfl rfl rfl)) ?_
          refine rg_put (d := 25) (v := .d (.fl (.bool s.closed))) rfl (og rfl (op_pick rfl rfl (by rw [h11]; rfl) rfl)) ?_
          refine rg_put (d := 6) (v := .d (.fl (.bool s.closed))) rfl (og rfl (op_assign rfl rfl rfl)) ?_
          refine rg_done rfl ?_
          refine a_ret ?_
          show ∃ ds, ResL _ _ _ ds ∧ RV.of ds = _
          refine ⟨[.fl (.bool s.closed)], (.cons (.tmp rfl (.d _)) .nil), ?_⟩
          first
            | (have hu : bl p s b = s.closed := by
                unfold bl; simp only [h1, h5, h9, h11, Bool.true_or, Bool.false_or, Bool.or_true, Bool.or_false, Bool.not_true, Bool.not_false, cond_true, cond_false, Bool.true_and, Bool.false_and, Bool.and_true, Bool.and_false] <;> rfl
               rw [hu]; rfl)
            | (exfalso; omega)
      · skip
        have h12 := f_beq h9
        refine a_skip ?_
        show A _ _ _ _ _ _ _
        refine a_exit ?_
        show A _ _ _ _ _ _ _
        refine a_rseq ?_
        refine rg_put (d := 26) (v := .d (.fl (.bool b))) rfl (og rfl (op_move rfl rfl rfl)) ?_
        refine rg_put (d := 27) (v := .d (.fl (.bool b))) rfl (og rfl (op_move rfl rfl rfl)) ?_
        rcases fot b with h13 | h13
        · skip
          refine rg_put (d := 28) (v := .d (.fl undef)) rfl (on rfl rfl rfl h13) ?_
          refine rg_put (d := 29) (v := .d (.fl undef)) rfl (on rfl rfl rfl h13) ?_
          refine rg_put (d := 30) (v := .d (.fl undef)) rfl (on rfl rfl rfl h13) ?_
          refine rg_put (d := 31) (v := .d (.fl (.bool false))) rfl (og rfl (op_pick rfl rfl (by rw [h13]; rfl) rfl)) ?_
          refine rg_put (d := 6) (v := .d (.fl (.bool false))) rfl (og rfl (op_assign rfl rfl rfl)) ?_
          refine rg_done rfl ?_
          refine a_ret ?_
          show ∃ ds, ResL _ _ _ ds ∧ RV.of ds = _
          refine ⟨[.fl (.bool false)], (.cons (.tmp rfl (.d _)) .nil), ?_⟩
          first
            | (have hu : bl p s b = false := by
                unfold bl; simp only [h1, h5, h9, h13, Bool.true_or, Bool.false_or, Bool.or_true, Bool.or_false, Bool.not_true, Bool.not_false, cond_true, cond_false, Bool.true_and, Bool.false_and, Bool.and_true, Bool.and_false] <;> rfl
               rw [hu]; rfl)
            | (exfalso; omega)
        · skip
          refine rg_put (d := 28) (v := .pt 102 1) rfl (oy rfl rfl rfl h13 (of_eff (s_field_pt rfl Try.underlying40 rfl ti4 rfl rfl rfl) rfl)) ?_
          refine rg_put (d := 29) (v := .d (.fl (.bool s.closed))) rfl (oy rfl rfl rfl h13 (op_load_pt rfl Try.underlying4 rfl rfl rfl rfl rfl)) ?_
          refine rg_put (d := 30) (v := .d (.fl (.bool (!s.closed)))) rfl (oy rfl rfl rfl h13 (op_un rfl rfl (u_not _) rfl)) ?_
          refine rg_put (d := 31) (v := .d (.fl (.bool (!s.closed)))) rfl (og rfl (op_pick rfl rfl (by rw [h13]; rfl) rfl)) ?_
          refine rg_put (d := 6) (v := .d (.fl (.bool (!s.closed)))) rfl (og rfl (op_assign rfl rfl rfl)) ?_
          refine rg_done rfl ?_
          refine a_ret ?_
          show ∃ ds, ResL _ _ _ ds ∧ RV.of ds = _
          refine ⟨[.fl (.bool (!s.closed))], (.cons (.tmp rfl (.d _)) .nil), ?_⟩
          first
            | (have hu : bl p s b = (!s.closed) := by
                unfold bl; simp only [h1, h5, h9, h13, Bool.true_or, Bool.false_or, Bool.or_true, Bool.or_false, Bool.not_true, Bool.not_false, cond_true, cond_false, Bool.true_and, Bool.false_and, Bool.and_true, Bool.and_false] <;> rfl
               rw [hu]; rfl)
            | (exfalso; omega)
set_option maxHeartbeats 4000000 in
set_option maxRecDepth 100000 in
theorem tck_c (t : Tpg) : Ctr Try.prog 6 [.ag (eTpg t)] (.d (.fl (.int .i64 (tck t)))) := by
  refine ctr (n := 89) (rs := #[.tmp 2]) (L := [(0, .d (.ag (eTpg t)))]) Try.func6 rfl rfl rfl rfl rfl (fun w0 U0 => ?_)
  refine a_rseq ?_
  refine rg_nam (d := 1) (v := .pt 101 0) (m := 101) (nw := [(101, .bx 28 (eTpg t))]) rfl (og rfl (of_eff (op_box 101 rfl rfl rfl rfl) rfl)) rfl ?_
  refine rg_put (d := 2) (v := .d (.fl (.int .i64 0))) rfl (og rfl (op_assign rfl rfl rfl)) ?_
  refine rg_done rfl ?_
  refine a_seq ?_
  refine a_rseq ?_
  refine rg_put (d := 13) (v := .pt 101 0) rfl (og rfl (of_eff (s_field_pt rfl Try.underlying28 rfl ti25 rfl rfl rfl) rfl)) ?_
  refine rg_put (d := 14) (v := .d (.ag (eNwk t.net))) rfl (og rfl (of_eff (s_load_pts rfl Try.underlying25 rfl ti25 rfl rfl rfl rfl) rfl)) ?_
  refine rg_put (d := 15) (v := .d (.fl (.int .i64 (gck t.net)))) rfl (og rfl (op_call rfl Try.func12 nm12 rfl (.cons rfl (.d _) .nil) (gck_c t.net) rfl)) ?_
  refine rg_put (d := 3) (v := .d (.fl (.int .i64 (gck t.net)))) rfl (og rfl (op_assign rfl rfl rfl)) ?_
  refine rg_done rfl ?_
  refine a_rseq ?_
  refine rg_put (d := 16) (v := .d (.fl (.int .i64 (gck t.net)))) rfl (og rfl (op_move rfl rfl rfl)) ?_
  refine rg_put (d := 17) (v := .d (.fl (.bool (((gck t.net) != 0))))) rfl (og rfl (op_bin rfl rfl rfl (b_neq _ _ _ _) rfl)) ?_
  refine rg_done rfl ?_
  refine a_cond rfl (fun h1 => ?_) (fun h1 => ?_)
  · skip
    have h2 := t_bne h1
    refine a_rseq ?_
    refine rg_put (d := 18) (v := .d (.fl (.int .i64 (gck t.net)))) rfl (og rfl (op_move rfl rfl rfl)) ?_
    refine rg_put (d := 2) (v := .d (.fl (.int .i64 (gck t.net)))) rfl (og rfl (op_assign rfl rfl rfl)) ?_
    refine rg_done rfl ?_
    refine a_ret ?_
    show ∃ ds, ResL _ _ _ ds ∧ RV.of ds = _
    refine ⟨[.fl (.int .i64 (gck t.net))], (.cons (.tmp rfl (.d _)) .nil), ?_⟩
    rw [tck_g h1]; rfl
  · skip
    have h3 := f_bne h1
    refine a_skip ?_
    show A _ _ _ _ _ _ _
    refine a_seq ?_
    refine a_rseq ?_
    refine rg_put (d := 19) (v := .pt 101 2) rfl (og rfl (of_eff (s_field_pt rfl Try.underlying28 rfl ti26 rfl rfl rfl) rfl)) ?_
    refine rg_put (d := 20) (v := .d (.sl 3 (List.map eSys t.syss))) rfl (og rfl (op_load_pt rfl Try.underlying26 rfl rfl rfl rfl rfl)) ?_
    refine rg_put (d := 21) (v := .d (.fl (.int .i64 (t.syss.length : Int)))) rfl (og rfl (s_len rfl Try.underlying26 rfl rfl)) ?_
    refine rg_put (d := 22) (v := .d (.fl (.bool ((decide (64 < (t.syss.length : Int))))))) rfl (og rfl (op_bin rfl rfl rfl (b_gtr _ _ _ _) rfl)) ?_
    refine rg_done rfl ?_
    refine a_cond rfl (fun h4 => ?_) (fun h4 => ?_)
    · skip
      have h5 := t_dec h4
      refine a_rseq ?_
      refine rg_put (d := 2) (v := .d (.fl (.int .i64 3))) rfl (og rfl (op_assign rfl rfl rfl)) ?_
      refine rg_done rfl ?_
      refine a_ret ?_
      show ∃ ds, ResL _ _ _ ds ∧ RV.of ds = _
      refine ⟨[.fl (.int .i64 3)], (.cons (.tmp rfl (.d _)) .nil), ?_⟩
      rw [tck_l h1 h4]; rfl
    · skip
      have h6 := f_dec h4
      refine a_skip ?_
      show A _ _ _ _ _ _ _
      refine a_rseq ?_
      refine rg_nam (d := 23) (v := .ow 102) (m := 102) (nw := [(102, .mp [])]) rfl (og rfl (op_makeMap 102 rfl rfl)) rfl ?_
      refine rg_put (d := 4) (v := .ow 102) rfl (og rfl (op_assign rfl rfl rfl)) ?_
      refine rg_done rfl ?_
      refine a_seq ?_
      refine a_rseq ?_
      refine rg_put (d := 24) (v := .pt 101 2) rfl (og rfl (of_eff (s_field_pt rfl Try.underlying28 rfl ti26 rfl rfl rfl) rfl)) ?_
      refine rg_put (d := 25) (v := .d (.sl 3 (List.map eSys t.syss))) rfl (og rfl (op_load_pt rfl Try.underlying26 rfl rfl rfl rfl rfl)) ?_
      refine rg_put (d := 26) (v := .d (.fl (.int .i64 (t.syss.length : Int)))) rfl (og rfl (s_len rfl Try.underlying26 rfl rfl)) ?_
      refine rg_put (d := 27) (v := .d (.fl (.int .i64 0))) rfl (og rfl (op_move rfl rfl rfl)) ?_
      refine rg_done rfl ?_
      refine a_block ?_
      refine a_loop (ι := Nat) (fun k => SS [(0, .d (.ag (eTpg t))), (1, .pt 101 0), (3, .d (.fl (.int .i64 (gck t.net)))), (4, .ow 102), (17, .d (.fl (.bool (((gck t.net) != 0))))), (22, .d (.fl (.bool ((decide (64 < (t.syss.length : Int))))))), (25, .d (.sl 3 (List.map eSys t.syss))), (26, .d (.fl (.int .i64 (t.syss.length : Int)))), (27, .d (.fl (.int .i64 (k : Int))))] [(101, .bx 28 (eTpg t)), (102, .mp ((setS (t.syss.take k))))]) (fun k => k ≤ t.syss.length ∧ syE t.syss = fe (sy1 t.syss) k (t.syss.length - k)) (fun k => t.syss.length - k) 0 (⟨by omega, rfl⟩) (imp_forget rfl ⟨rfl, rfl, rfl, rfl, rfl, rfl, rfl, rfl, (by first | rfl | exact ci (by omega) | exact ci (by simp) | exact cd (by simp) | simp), trivial⟩ ⟨rfl, rfl, trivial⟩) (fun k hok => ?_)
      obtain ⟨hk, hc⟩ := hok
      refine a_rseq ?_
      refine rg_put (d := 28) (v := .d (.fl (.bool ((decide ((k : Int) < (t.syss.length : Int))))))) rfl (og rfl (op_bin rfl rfl rfl (b_lss _ _ _ _) rfl)) ?_
      refine rg_done rfl ?_
      refine a_seq ?_
      refine a_cond rfl (fun h7 => ?_) (fun h7 => ?_)
      · skip
        have h8 := t_dec h7
        refine a_skip ?_
        show A _ _ _ _ _ _ _
        refine a_seq ?_
        refine a_block ?_
        refine a_rseq ?_
        refine rg_put (d := 29) (v := .el ((eSys (ix t.syss k)))) rfl (og rfl (s_index rfl Try.underlying26 ti40 rfl rfl (by omega) (row_at (by omega)) rfl)) ?_
        refine rg_put (d := 30) (v := .d (.ag (eSys (ix t.syss k)))) rfl (og rfl (of_eff (s_load_els rfl Try.underlying40 rfl ti40 rfl rfl rfl) rfl)) ?_
        refine rg_nam (d := 6) (v := .pt 103 0) (m := 103) (nw := [(103, .bx 40 ([.fl (.string (⟨#[]⟩)), .fl (.bool false), .fl (.int .i64 0)]))]) rfl (og rfl (of_eff (s_alloc 103 rfl ti40 (by kernel_rfl) rfl) rfl)) rfl ?_
        refine rg_sto (nw := [(103, .bx 40 ((eSys (ix t.syss k))))]) rfl (og rfl (of_eff (s_store rfl rfl ti40 rfl rfl rfl rfl rfl rfl) rfl)) ?_
        refine rg_done rfl ?_
        refine a_rseq ?_
        refine rg_put (d := 32) (v := .ow 102) rfl (og rfl (op_move rfl rfl rfl)) ?_
        refine rg_put (d := 33) (v := .pt 103 0) rfl (og rfl (of_eff (s_field_pt rfl Try.underlying40 rfl ti9 rfl rfl rfl) rfl)) ?_
        refine rg_put (d := 34) (v := .d (.fl (.string ((ix t.syss k).name)))) rfl (og rfl (op_load_pt rfl Try.underlying9 rfl rfl rfl rfl rfl)) ?_
        rcases h9 : sF (t.syss.take k) ((ix t.syss k).name) with _ | qh9
        · skip
          refine rg_put (d := 35) (v := .tu [.ag (eSys ((Sys.mk (⟨#[]⟩) false 0))), .fl (.bool false)]) rfl (og rfl (op_lookup rfl Try.underlying44 Try.underlying9 rfl ti40 rfl rfl (.ow rfl) rfl (r := none) ((mfind_mapS Sys.name (fun x => .ag (eSys x)) _ _).trans (congrArg (fun o => some (Option.map (fun x => DV.ag (eSys x)) o)) h9)) rfl)) ?_
          refine rg_put (d := 31) (v := .tu [.ag (eSys ((Sys.mk (⟨#[]⟩) false 0))), .fl (.bool false)]) rfl (og rfl (op_move rfl rfl rfl)) ?_
          refine rg_put (d := 36) (v := .d (.ag (eSys ((Sys.mk (⟨#[]⟩) false 0))))) rfl (og rfl (op_extract rfl rfl rfl rfl)) ?_
          refine rg_put (d := 37) (v := .d (.fl (.bool false))) rfl (og rfl (op_extract rfl rfl rfl rfl)) ?_
          refine rg_nam (d := 7) (v := .pt 104 0) (m := 104) (nw := [(104, .bx 40 ([.fl (.string (⟨#[]⟩)), .fl (.bool false), .fl (.int .i64 0)]))]) rfl (og rfl (of_eff (s_alloc 104 rfl ti40 (by kernel_rfl) rfl) rfl)) rfl ?_
          refine rg_sto (nw := [(104, .bx 40 ((eSys ((Sys.mk (⟨#[]⟩) false 0)))))]) rfl (og rfl (of_eff (s_store rfl rfl ti40 rfl rfl rfl rfl rfl rfl) rfl)) ?_
          refine rg_put (d := 8) (v := .d (.fl (.bool false))) rfl (og rfl (op_assign rfl rfl rfl)) ?_
          refine rg_done rfl ?_
          refine a_seq ?_
          refine a_block ?_
          refine a_rseq ?_
          refine rg_put (d := 39) (v := .pt 103 0) rfl (og rfl (of_eff (s_field_pt rfl Try.underlying40 rfl ti9 rfl rfl rfl) rfl)) ?_
          refine rg_put (d := 40) (v := .d (.fl (.string ((ix t.syss k).name)))) rfl (og rfl (op_load_pt rfl Try.underlying9 rfl rfl rfl rfl rfl)) ?_
          refine rg_put (d := 41) (v := .d (.fl (.bool ((Nm.nmB ((ix t.syss k).name)))))) rfl (og rfl (op_call rfl Try.func13 nm13 rfl (.cons rfl (.d _) .nil) (nmC ((ix t.syss k).name)) rfl)) ?_
          refine rg_put (d := 42) (v := .d (.fl (.bool ((!((Nm.nmB ((ix t.syss k).name)))))))) rfl (og rfl (op_un rfl rfl (u_not _) rfl)) ?_
          refine rg_put (d := 38) (v := .d (.fl (.bool ((!((Nm.nmB ((ix t.syss k).name)))))))) rfl (og rfl (op_assign rfl rfl rfl)) ?_
          refine rg_done rfl ?_
          refine a_cond rfl (fun h10 => ?_) (fun h10 => ?_)
          · skip
            have h11 := t_not h10
            refine a_rseq ?_
            refine rg_put (d := 2) (v := .d (.fl (.int .i64 6))) rfl (og rfl (op_assign rfl rfl rfl)) ?_
            refine rg_done rfl ?_
            refine a_ret ?_
            show ∃ ds, ResL _ _ _ ds ∧ RV.of ds = _
            refine ⟨[.fl (.int .i64 6)], (.cons (.tmp rfl (.d _)) .nil), ?_⟩
            have hsn : (sF (t.syss.take k) (ix t.syss k).name).isSome = false := by rw [h9]; rfl
            have hb : sy1 t.syss k = 6 := by unfold sy1; simp only [h1, h4, h7, h10, h11, hsn, Bool.true_or, Bool.false_or, Bool.or_true, Bool.or_false, Bool.not_true, Bool.not_false, cond_true, cond_false, Bool.true_and, Bool.false_and, Bool.and_true, Bool.and_false] <;> rfl
            rw [tck_s h1 h4 (show syE t.syss = 6 from fe_yes (by omega) hc hb (by decide)) (by decide)]; rfl
          · skip
            have h12 := f_not h10
            refine a_rseq ?_
            refine rg_put (d := 44) (v := .d (.fl (.bool false))) rfl (og rfl (op_move rfl rfl rfl)) ?_
            refine rg_put (d := 43) (v := .d (.fl (.bool false))) rfl (og rfl (op_assign rfl rfl rfl)) ?_
            refine rg_done rfl ?_
            refine a_condF rfl rfl ?_
            refine a_rseq ?_
            refine rg_put (d := 46) (v := .pt 103 2) rfl (og rfl (of_eff (s_field_pt rfl Try.underlying40 rfl ti3 rfl rfl rfl) rfl)) ?_
            refine rg_put (d := 47) (v := .d (.fl (.int .i64 ((ix t.syss k).most)))) rfl (og rfl (op_load_pt rfl Try.underlying3 rfl rfl rfl rfl rfl)) ?_
            refine rg_put (d := 48) (v := .d (.fl (.bool ((decide ((ix t.syss k).most < 0)))))) rfl (og rfl (op_bin rfl rfl rfl (b_lss _ _ _ _) rfl)) ?_
            refine rg_put (d := 49) (v := .d (.fl (.bool ((decide ((ix t.syss k).most < 0)))))) rfl (og rfl (op_move rfl rfl rfl)) ?_
            rcases fot ((decide ((ix t.syss k).most < 0))) with h13 | h13
            · skip
              have h14 := f_dec h13
              refine rg_put (d := 50) (v := .pt 103 2) rfl (oy rfl rfl rfl h13 (of_eff (s_field_pt rfl Try.underlying40 rfl ti3 rfl rfl rfl) rfl)) ?_
              refine rg_put (d := 51) (v := .d (.fl (.int .i64 ((ix t.syss k).most)))) rfl (oy rfl rfl rfl h13 (op_load_pt rfl Try.underlying3 rfl rfl rfl rfl rfl)) ?_
              refine rg_put (d := 52) (v := .d (.fl (.bool ((decide (2147483648 < (ix t.syss k).most)))))) rfl (oy rfl rfl rfl h13 (op_bin rfl rfl rfl (b_gtr _ _ _ _) rfl)) ?_
              refine rg_put (d := 53) (v := .d (.fl (.bool ((decide (2147483648 < (ix t.syss k).most)))))) rfl (og rfl (op_pick rfl rfl (by rw [h13]; rfl) rfl)) ?_
              refine rg_put (d := 54) (v := .d (.fl (.bool ((decide (2147483648 < (ix t.syss k).most)))))) rfl (og rfl (op_move rfl rfl rfl)) ?_
              rcases fot ((decide (2147483648 < (ix t.syss k).most))) with h15 | h15
              · skip
                have h16 := f_dec h15
                refine rg_put (d := 55) (v := .pt 103 1) rfl (oy rfl rfl rfl h15 (of_eff (s_field_pt rfl Try.underlying40 rfl ti4 rfl rfl rfl) rfl)) ?_
                refine rg_put (d := 56) (v := .d (.fl (.bool ((ix t.syss k).closed)))) rfl (oy rfl rfl rfl h15 (op_load_pt rfl Try.underlying4 rfl rfl rfl rfl rfl)) ?_
                refine rg_put (d := 57) (v := .d (.fl (.bool ((ix t.syss k).closed)))) rfl (oy rfl rfl rfl h15 (op_move rfl rfl rfl)) ?_
                rcases fot ((ix t.syss k).closed) with h17 | h17
                · skip
                  refine rg_put (d := 58) (v := .d (.fl undef)) rfl (on rfl rfl rfl h17) ?_
                  refine rg_put (d := 59) (v := .d (.fl undef)) rfl (on rfl rfl rfl h17) ?_
                  refine rg_put (d := 60) (v := .d (.fl undef)) rfl (on rfl rfl rfl h17) ?_
                  refine rg_put (d := 61) (v := .d (.fl (.bool false))) rfl (oy rfl rfl rfl h15 (op_pick rfl rfl (by rw [h17]; rfl) rfl)) ?_
                  refine rg_put (d := 62) (v := .d (.fl (.bool false))) rfl (og rfl (op_pick rfl rfl (by rw [h15]; rfl) rfl)) ?_
                  refine rg_put (d := 45) (v := .d (.fl (.bool false))) rfl (og rfl (op_assign rfl rfl rfl)) ?_
                  refine rg_done rfl ?_
                  refine a_condF rfl rfl ?_
                  refine a_skip ?_
                  show A _ _ _ _ _ _ _
                  refine a_region ?_
                  refine rg_put (d := 63) (v := .ow 102) rfl (og rfl (op_move rfl rfl rfl)) ?_
                  refine rg_put (d := 64) (v := .pt 103 0) rfl (og rfl (of_eff (s_field_pt rfl Try.underlying40 rfl ti9 rfl rfl rfl) rfl)) ?_
                  refine rg_put (d := 65) (v := .d (.fl (.string ((ix t.syss k).name)))) rfl (og rfl (op_load_pt rfl Try.underlying9 rfl rfl rfl rfl rfl)) ?_
                  refine rg_put (d := 66) (v := .d (.ag (eSys (ix t.syss k)))) rfl (og rfl (of_eff (s_load_pts rfl Try.underlying40 rfl ti40 rfl rfl rfl rfl) rfl)) ?_
                  refine rg_sto (nw := [(102, .mp ((setS (t.syss.take k)) ++ [((.string ((ix t.syss k).name)), .ag (eSys (ix t.syss k)))]))]) rfl (og rfl (op_mapPush rfl rfl Try.underlying44 Try.underlying9 rfl rfl rfl rfl ((mfind_mapS Sys.name (fun x => .ag (eSys x)) _ _).trans (congrArg (fun o => some (Option.map (fun x => DV.ag (eSys x)) o)) h9)) rfl)) ?_
                  refine rg_done rfl ?_
                  show A _ _ _ _ _ _ _
                  refine a_region ?_
                  refine rg_put (d := 67) (v := .d (.fl (.int .i64 (((k : Int) + 1))))) rfl (og rfl (op_bin rfl rfl rfl (fun x y w => b_add64 _ _ _ x y w (by omega)) rfl)) ?_
                  refine rg_put (d := 27) (v := .d (.fl (.int .i64 (((k : Int) + 1))))) rfl (og rfl (op_move rfl rfl rfl)) ?_
                  refine rg_done rfl ?_
                  have hsn : (sF (t.syss.take k) (ix t.syss k).name).isSome = false := by rw [h9]; rfl
                  have hb : sy1 t.syss k = 0 := by unfold sy1; simp only [h1, h4, h7, h10, h12, h13, h15, h17, hsn, Bool.true_or, Bool.false_or, Bool.or_true, Bool.or_false, Bool.not_true, Bool.not_false, cond_true, cond_false, Bool.true_and, Bool.false_and, Bool.and_true, Bool.and_false] <;> rfl
                  show ∃ i, _ ∧ _ ∧ Imp _ _ _ _ _
                  refine ⟨k + 1, ⟨by omega, fe_no (by omega) hc hb⟩, by omega, imp_forget rfl ⟨rfl, rfl, rfl, rfl, rfl, rfl, rfl, rfl, (by first | rfl | exact ci (by omega) | exact ci (by simp) | exact cd (by simp) | simp), trivial⟩ ⟨rfl, (congrArg (fun z => Ob.mp z) (setS_take (by omega))), trivial⟩⟩
                · skip
                  refine rg_put (d := 58) (v := .pt 103 2) rfl (oy rfl rfl rfl h17 (of_eff (s_field_pt rfl Try.underlying40 rfl ti3 rfl rfl rfl) rfl)) ?_
                  refine rg_put (d := 59) (v := .d (.fl (.int .i64 ((ix t.syss k).most)))) rfl (oy rfl rfl rfl h17 (op_load_pt rfl Try.underlying3 rfl rfl rfl rfl rfl)) ?_
                  refine rg_put (d := 60) (v := .d (.fl (.bool (((ix t.syss k).most == 0))))) rfl (oy rfl rfl rfl h17 (op_bin rfl rfl rfl (b_eql _ _ _ _) rfl)) ?_
                  refine rg_put (d := 61) (v := .d (.fl (.bool (((ix t.syss k).most == 0))))) rfl (oy rfl rfl rfl h15 (op_pick rfl rfl (by rw [h17]; rfl) rfl)) ?_
                  refine rg_put (d := 62) (v := .d (.fl (.bool (((ix t.syss k).most == 0))))) rfl (og rfl (op_pick rfl rfl (by rw [h15]; rfl) rfl)) ?_
                  refine rg_put (d := 45) (v := .d (.fl (.bool (((ix t.syss k).most == 0))))) rfl (og rfl (op_assign rfl rfl rfl)) ?_
                  refine rg_done rfl ?_
                  refine a_cond rfl (fun h18 => ?_) (fun h18 => ?_)
                  · skip
                    have h19 := t_beq h18
                    refine a_rseq ?_
                    refine rg_put (d := 2) (v := .d (.fl (.int .i64 12))) rfl (og rfl (op_assign rfl rfl rfl)) ?_
                    refine rg_done rfl ?_
                    refine a_ret ?_
                    show ∃ ds, ResL _ _ _ ds ∧ RV.of ds = _
                    refine ⟨[.fl (.int .i64 12)], (.cons (.tmp rfl (.d _)) .nil), ?_⟩
                    have hsn : (sF (t.syss.take k) (ix t.syss k).name).isSome = false := by rw [h9]; rfl
                    have hb : sy1 t.syss k = 12 := by unfold sy1; simp only [h1, h4, h7, h10, h12, h13, h15, h17, h18, hsn, Bool.true_or, Bool.false_or, Bool.or_true, Bool.or_false, Bool.not_true, Bool.not_false, cond_true, cond_false, Bool.true_and, Bool.false_and, Bool.and_true, Bool.and_false] <;> rfl
                    rw [tck_s h1 h4 (show syE t.syss = 12 from fe_yes (by omega) hc hb (by decide)) (by decide)]; rfl
                  · skip
                    have h20 := f_beq h18
                    refine a_skip ?_
                    show A _ _ _ _ _ _ _
                    refine a_region ?_
                    refine rg_put (d := 63) (v := .ow 102) rfl (og rfl (op_move rfl rfl rfl)) ?_
                    refine rg_put (d := 64) (v := .pt 103 0) rfl (og rfl (of_eff (s_field_pt rfl Try.underlying40 rfl ti9 rfl rfl rfl) rfl)) ?_
                    refine rg_put (d := 65) (v := .d (.fl (.string ((ix t.syss k).name)))) rfl (og rfl (op_load_pt rfl Try.underlying9 rfl rfl rfl rfl rfl)) ?_
                    refine rg_put (d := 66) (v := .d (.ag (eSys (ix t.syss k)))) rfl (og rfl (of_eff (s_load_pts rfl Try.underlying40 rfl ti40 rfl rfl rfl rfl) rfl)) ?_
                    refine rg_sto (nw := [(102, .mp ((setS (t.syss.take k)) ++ [((.string ((ix t.syss k).name)), .ag (eSys (ix t.syss k)))]))]) rfl (og rfl (op_mapPush rfl rfl Try.underlying44 Try.underlying9 rfl rfl rfl rfl ((mfind_mapS Sys.name (fun x => .ag (eSys x)) _ _).trans (congrArg (fun o => some (Option.map (fun x => DV.ag (eSys x)) o)) h9)) rfl)) ?_
                    refine rg_done rfl ?_
                    show A _ _ _ _ _ _ _
                    refine a_region ?_
                    refine rg_put (d := 67) (v := .d (.fl (.int .i64 (((k : Int) + 1))))) rfl (og rfl (op_bin rfl rfl rfl (fun x y w => b_add64 _ _ _ x y w (by omega)) rfl)) ?_
                    refine rg_put (d := 27) (v := .d (.fl (.int .i64 (((k : Int) + 1))))) rfl (og rfl (op_move rfl rfl rfl)) ?_
                    refine rg_done rfl ?_
                    have hsn : (sF (t.syss.take k) (ix t.syss k).name).isSome = false := by rw [h9]; rfl
                    have hb : sy1 t.syss k = 0 := by unfold sy1; simp only [h1, h4, h7, h10, h12, h13, h15, h17, h18, hsn, Bool.true_or, Bool.false_or, Bool.or_true, Bool.or_false, Bool.not_true, Bool.not_false, cond_true, cond_false, Bool.true_and, Bool.false_and, Bool.and_true, Bool.and_false] <;> rfl
                    show ∃ i, _ ∧ _ ∧ Imp _ _ _ _ _
                    refine ⟨k + 1, ⟨by omega, fe_no (by omega) hc hb⟩, by omega, imp_forget rfl ⟨rfl, rfl, rfl, rfl, rfl, rfl, rfl, rfl, (by first | rfl | exact ci (by omega) | exact ci (by simp) | exact cd (by simp) | simp), trivial⟩ ⟨rfl, (congrArg (fun z => Ob.mp z) (setS_take (by omega))), trivial⟩⟩
              · skip
                have h21 := t_dec h15
                refine rg_put (d := 55) (v := .d (.fl undef)) rfl (on rfl rfl rfl h15) ?_
                refine rg_put (d := 56) (v := .d (.fl undef)) rfl (on rfl rfl rfl h15) ?_
                refine rg_put (d := 57) (v := .d (.fl undef)) rfl (on rfl rfl rfl h15) ?_
                refine rg_put (d := 58) (v := .d (.fl undef)) rfl (ou rfl rfl rfl) ?_
                refine rg_put (d := 59) (v := .d (.fl undef)) rfl (ou rfl rfl rfl) ?_
                refine rg_put (d := 60) (v := .d (.fl undef)) rfl (ou rfl rfl rfl) ?_
                refine rg_put (d := 61) (v := .d (.fl undef)) rfl (on rfl rfl rfl h15) ?_
                refine rg_put (d := 62) (v := .d (.fl (.bool true))) rfl (og rfl (op_pick rfl rfl (by rw [h15]; rfl) rfl)) ?_
                refine rg_put (d := 45) (v := .d (.fl (.bool true))) rfl (og rfl (op_assign rfl rfl rfl)) ?_
                refine rg_done rfl ?_
                refine a_condK rfl rfl ?_
                refine a_rseq ?_
                refine rg_put (d := 2) (v := .d (.fl (.int .i64 12))) rfl (og rfl (op_assign rfl rfl rfl)) ?_
                refine rg_done rfl ?_
                refine a_ret ?_
                show ∃ ds, ResL _ _ _ ds ∧ RV.of ds = _
                refine ⟨[.fl (.int .i64 12)], (.cons (.tmp rfl (.d _)) .nil), ?_⟩
                have hsn : (sF (t.syss.take k) (ix t.syss k).name).isSome = false := by rw [h9]; rfl
                have hb : sy1 t.syss k = 12 := by unfold sy1; simp only [h1, h4, h7, h10, h12, h13, h15, hsn, Bool.true_or, Bool.false_or, Bool.or_true, Bool.or_false, Bool.not_true, Bool.not_false, cond_true, cond_false, Bool.true_and, Bool.false_and, Bool.and_true, Bool.and_false] <;> rfl
                rw [tck_s h1 h4 (show syE t.syss = 12 from fe_yes (by omega) hc hb (by decide)) (by decide)]; rfl
            · skip
              have h22 := t_dec h13
              refine rg_put (d := 50) (v := .d (.fl undef)) rfl (on rfl rfl rfl h13) ?_
              refine rg_put (d := 51) (v := .d (.fl undef)) rfl (on rfl rfl rfl h13) ?_
              refine rg_put (d := 52) (v := .d (.fl undef)) rfl (on rfl rfl rfl h13) ?_
              refine rg_put (d := 53) (v := .d (.fl (.bool true))) rfl (og rfl (op_pick rfl rfl (by rw [h13]; rfl) rfl)) ?_
              refine rg_put (d := 54) (v := .d (.fl (.bool true))) rfl (og rfl (op_move rfl rfl rfl)) ?_
              refine rg_put (d := 55) (v := .d (.fl undef)) rfl (on rfl rfl rfl rfl) ?_
              refine rg_put (d := 56) (v := .d (.fl undef)) rfl (on rfl rfl rfl rfl) ?_
              refine rg_put (d := 57) (v := .d (.fl undef)) rfl (on rfl rfl rfl rfl) ?_
              refine rg_put (d := 58) (v := .d (.fl undef)) rfl (ou rfl rfl rfl) ?_
              refine rg_put (d := 59) (v := .d (.fl undef)) rfl (ou rfl rfl rfl) ?_
              refine rg_put (d := 60) (v := .d (.fl undef)) rfl (ou rfl rfl rfl) ?_
              refine rg_put (d := 61) (v := .d (.fl undef)) rfl (on rfl rfl rfl rfl) ?_
              refine rg_put (d := 62) (v := .d (.fl (.bool true))) rfl (og rfl (op_pick rfl rfl rfl rfl)) ?_
              refine rg_put (d := 45) (v := .d (.fl (.bool true))) rfl (og rfl (op_assign rfl rfl rfl)) ?_
              refine rg_done rfl ?_
              refine a_condK rfl rfl ?_
              refine a_rseq ?_
              refine rg_put (d := 2) (v := .d (.fl (.int .i64 12))) rfl (og rfl (op_assign rfl rfl rfl)) ?_
              refine rg_done rfl ?_
              refine a_ret ?_
              show ∃ ds, ResL _ _ _ ds ∧ RV.of ds = _
              refine ⟨[.fl (.int .i64 12)], (.cons (.tmp rfl (.d _)) .nil), ?_⟩
              have hsn : (sF (t.syss.take k) (ix t.syss k).name).isSome = false := by rw [h9]; rfl
              have hb : sy1 t.syss k = 12 := by unfold sy1; simp only [h1, h4, h7, h10, h12, h13, hsn, Bool.true_or, Bool.false_or, Bool.or_true, Bool.or_false, Bool.not_true, Bool.not_false, cond_true, cond_false, Bool.true_and, Bool.false_and, Bool.and_true, Bool.and_false] <;> rfl
              rw [tck_s h1 h4 (show syE t.syss = 12 from fe_yes (by omega) hc hb (by decide)) (by decide)]; rfl
        · skip
          refine rg_put (d := 35) (v := .tu [.ag (eSys qh9), .fl (.bool true)]) rfl (og rfl (op_lookup rfl Try.underlying44 Try.underlying9 rfl ti40 rfl rfl (.ow rfl) rfl (r := (some (.ag (eSys qh9)))) ((mfind_mapS Sys.name (fun x => .ag (eSys x)) _ _).trans (congrArg (fun o => some (Option.map (fun x => DV.ag (eSys x)) o)) h9)) rfl)) ?_
          refine rg_put (d := 31) (v := .tu [.ag (eSys qh9), .fl (.bool true)]) rfl (og rfl (op_move rfl rfl rfl)) ?_
          refine rg_put (d := 36) (v := .d (.ag (eSys qh9))) rfl (og rfl (op_extract rfl rfl rfl rfl)) ?_
          refine rg_put (d := 37) (v := .d (.fl (.bool true))) rfl (og rfl (op_extract rfl rfl rfl rfl)) ?_
          refine rg_nam (d := 7) (v := .pt 105 0) (m := 105) (nw := [(105, .bx 40 ([.fl (.string (⟨#[]⟩)), .fl (.bool false), .fl (.int .i64 0)]))]) rfl (og rfl (of_eff (s_alloc 105 rfl ti40 (by kernel_rfl) rfl) rfl)) rfl ?_
          refine rg_sto (nw := [(105, .bx 40 (eSys qh9))]) rfl (og rfl (of_eff (s_store rfl rfl ti40 rfl rfl rfl rfl rfl rfl) rfl)) ?_
          refine rg_put (d := 8) (v := .d (.fl (.bool true))) rfl (og rfl (op_assign rfl rfl rfl)) ?_
          refine rg_done rfl ?_
          refine a_seq ?_
          refine a_block ?_
          refine a_rseq ?_
          refine rg_put (d := 39) (v := .pt 103 0) rfl (og rfl (of_eff (s_field_pt rfl Try.underlying40 rfl ti9 rfl rfl rfl) rfl)) ?_
          refine rg_put (d := 40) (v := .d (.fl (.string ((ix t.syss k).name)))) rfl (og rfl (op_load_pt rfl Try.underlying9 rfl rfl rfl rfl rfl)) ?_
          refine rg_put (d := 41) (v := .d (.fl (.bool ((Nm.nmB ((ix t.syss k).name)))))) rfl (og rfl (op_call rfl Try.func13 nm13 rfl (.cons rfl (.d _) .nil) (nmC ((ix t.syss k).name)) rfl)) ?_
          refine rg_put (d := 42) (v := .d (.fl (.bool ((!((Nm.nmB ((ix t.syss k).name)))))))) rfl (og rfl (op_un rfl rfl (u_not _) rfl)) ?_
          refine rg_put (d := 38) (v := .d (.fl (.bool ((!((Nm.nmB ((ix t.syss k).name)))))))) rfl (og rfl (op_assign rfl rfl rfl)) ?_
          refine rg_done rfl ?_
          refine a_cond rfl (fun h23 => ?_) (fun h23 => ?_)
          · skip
            have h24 := t_not h23
            refine a_rseq ?_
            refine rg_put (d := 2) (v := .d (.fl (.int .i64 6))) rfl (og rfl (op_assign rfl rfl rfl)) ?_
            refine rg_done rfl ?_
            refine a_ret ?_
            show ∃ ds, ResL _ _ _ ds ∧ RV.of ds = _
            refine ⟨[.fl (.int .i64 6)], (.cons (.tmp rfl (.d _)) .nil), ?_⟩
            have hsn : (sF (t.syss.take k) (ix t.syss k).name).isSome = true := by rw [h9]; rfl
            have hb : sy1 t.syss k = 6 := by unfold sy1; simp only [h1, h4, h7, h23, h24, hsn, Bool.true_or, Bool.false_or, Bool.or_true, Bool.or_false, Bool.not_true, Bool.not_false, cond_true, cond_false, Bool.true_and, Bool.false_and, Bool.and_true, Bool.and_false] <;> rfl
            rw [tck_s h1 h4 (show syE t.syss = 6 from fe_yes (by omega) hc hb (by decide)) (by decide)]; rfl
          · skip
            have h25 := f_not h23
            refine a_rseq ?_
            refine rg_put (d := 44) (v := .d (.fl (.bool true))) rfl (og rfl (op_move rfl rfl rfl)) ?_
            refine rg_put (d := 43) (v := .d (.fl (.bool true))) rfl (og rfl (op_assign rfl rfl rfl)) ?_
            refine rg_done rfl ?_
            refine a_condK rfl rfl ?_
            refine a_rseq ?_
            refine rg_put (d := 2) (v := .d (.fl (.int .i64 9))) rfl (og rfl (op_assign rfl rfl rfl)) ?_
            refine rg_done rfl ?_
            refine a_ret ?_
            show ∃ ds, ResL _ _ _ ds ∧ RV.of ds = _
            refine ⟨[.fl (.int .i64 9)], (.cons (.tmp rfl (.d _)) .nil), ?_⟩
            have hsn : (sF (t.syss.take k) (ix t.syss k).name).isSome = true := by rw [h9]; rfl
            have hb : sy1 t.syss k = 9 := by unfold sy1; simp only [h1, h4, h7, h23, h25, hsn, Bool.true_or, Bool.false_or, Bool.or_true, Bool.or_false, Bool.not_true, Bool.not_false, cond_true, cond_false, Bool.true_and, Bool.false_and, Bool.and_true, Bool.and_false] <;> rfl
            rw [tck_s h1 h4 (show syE t.syss = 9 from fe_yes (by omega) hc hb (by decide)) (by decide)]; rfl
      · skip
        have h26 := f_dec h7
        refine a_exit ?_
        show A _ _ _ _ _ _ _
        refine a_seq ?_
        refine a_rseq ?_
        have hs0 : syE t.syss = 0 := by rw [fe_end (by omega)] at hc; exact hc
        have hkd : ∀ j, j < t.net.pts.length → 1 ≤ (ix t.net.pts j).kind ∧ (ix t.net.pts j).kind ≤ 4 := fun j h => pt_kind ((gck_0 (f_bne h1)).2.2.1 j h)
        have hp64 : t.net.pts.length ≤ 64 := (gck_0 (f_bne h1)).1
        rw [show (setS (t.syss.take k)) = (setS t.syss) from (by rw [List.take_of_length_le (by omega)])]
        refine rg_put (d := 68) (v := .pt 101 0) rfl (og rfl (of_eff (s_field_pt rfl Try.underlying28 rfl ti25 rfl rfl rfl) rfl)) ?_
        refine rg_put (d := 69) (v := .pt 101 0) rfl (og rfl (of_eff (s_field_pt rfl Try.underlying25 rfl ti22 rfl rfl rfl) rfl)) ?_
        refine rg_put (d := 70) (v := .d (.sl 3 (List.map ePnt t.net.pts))) rfl (og rfl (op_load_pt rfl Try.underlying22 rfl rfl rfl rfl rfl)) ?_
        refine rg_put (d := 71) (v := .d (.fl (.int .i64 (t.net.pts.length : Int)))) rfl (og rfl (s_len rfl Try.underlying22 rfl rfl)) ?_
        refine rg_put (d := 72) (v := .d (.fl (.int .i64 0))) rfl (og rfl (op_move rfl rfl rfl)) ?_
        refine rg_done rfl ?_
        refine a_block ?_
        refine a_loop (ι := Nat) (fun j => SS [(0, .d (.ag (eTpg t))), (1, .pt 101 0), (3, .d (.fl (.int .i64 (gck t.net)))), (4, .ow 102), (17, .d (.fl (.bool (((gck t.net) != 0))))), (22, .d (.fl (.bool ((decide (64 < (t.syss.length : Int))))))), (25, .d (.sl 3 (List.map eSys t.syss))), (26, .d (.fl (.int .i64 (t.syss.length : Int)))), (27, .d (.fl (.int .i64 (k : Int)))), (28, .d (.fl (.bool ((decide ((k : Int) < (t.syss.length : Int))))))), (70, .d (.sl 3 (List.map ePnt t.net.pts))), (71, .d (.fl (.int .i64 (t.net.pts.length : Int)))), (72, .d (.fl (.int .i64 (j : Int))))] [(101, .bx 28 (eTpg t)), (102, .mp (setS t.syss))]) (fun j => j ≤ t.net.pts.length ∧ peE t = fe (pe1 t) j (t.net.pts.length - j)) (fun j => t.net.pts.length - j) 0 (⟨by omega, rfl⟩) (imp_forget rfl ⟨rfl, rfl, rfl, rfl, rfl, rfl, rfl, rfl, rfl, rfl, rfl, rfl, (by first | rfl | exact ci (by omega) | exact ci (by simp) | exact cd (by simp) | simp), trivial⟩ ⟨rfl, rfl, trivial⟩) (fun j hok => ?_)
        obtain ⟨hk, hc⟩ := hok
        refine a_rseq ?_
        refine rg_put (d := 73) (v := .d (.fl (.bool ((decide ((j : Int) < (t.net.pts.length : Int))))))) rfl (og rfl (op_bin rfl rfl rfl (b_lss _ _ _ _) rfl)) ?_
        refine rg_done rfl ?_
        refine a_seq ?_
        refine a_cond rfl (fun h27 => ?_) (fun h27 => ?_)
        · skip
          have h28 := t_dec h27
          refine a_skip ?_
          show A _ _ _ _ _ _ _
          refine a_seq ?_
          refine a_block ?_
          refine a_rseq ?_
          refine rg_put (d := 74) (v := .el ((ePnt (ix t.net.pts j)))) rfl (og rfl (s_index rfl Try.underlying22 ti35 rfl rfl (by omega) (row_at (by omega)) rfl)) ?_
          refine rg_put (d := 75) (v := .d (.ag (ePnt (ix t.net.pts j)))) rfl (og rfl (of_eff (s_load_els rfl Try.underlying35 rfl ti35 rfl rfl rfl) rfl)) ?_
          refine rg_nam (d := 10) (v := .pt 106 0) (m := 106) (nw := [(106, .bx 35 ([.fl (.string (⟨#[]⟩)), .fl (.int .i64 0), .fl (.string (⟨#[]⟩))]))]) rfl (og rfl (of_eff (s_alloc 106 rfl ti35 (by kernel_rfl) rfl) rfl)) rfl ?_
          refine rg_sto (nw := [(106, .bx 35 ((ePnt (ix t.net.pts j))))]) rfl (og rfl (of_eff (s_store rfl rfl ti35 rfl rfl rfl rfl rfl rfl) rfl)) ?_
          refine rg_done rfl ?_
          refine a_rseq ?_
          refine rg_put (d := 77) (v := .ow 102) rfl (og rfl (op_move rfl rfl rfl)) ?_
          refine rg_put (d := 78) (v := .pt 106 2) rfl (og rfl (of_eff (s_field_pt rfl Try.underlying35 rfl ti9 rfl rfl rfl) rfl)) ?_
          refine rg_put (d := 79) (v := .d (.fl (.string ((ix t.net.pts j).sys)))) rfl (og rfl (op_load_pt rfl Try.underlying9 rfl rfl rfl rfl rfl)) ?_
          rcases h29 : sF t.syss ((ix t.net.pts j).sys) with _ | qh29
          · skip
            refine rg_put (d := 80) (v := .tu [.ag (eSys ((Sys.mk (⟨#[]⟩) false 0))), .fl (.bool false)]) rfl (og rfl (op_lookup rfl Try.underlying44 Try.underlying9 rfl ti40 rfl rfl (.ow rfl) rfl (r := none) ((mfind_mapS Sys.name (fun x => .ag (eSys x)) _ _).trans (congrArg (fun o => some (Option.map (fun x => DV.ag (eSys x)) o)) h29)) rfl)) ?_
            refine rg_put (d := 76) (v := .tu [.ag (eSys ((Sys.mk (⟨#[]⟩) false 0))), .fl (.bool false)]) rfl (og rfl (op_move rfl rfl rfl)) ?_
            refine rg_put (d := 81) (v := .d (.ag (eSys ((Sys.mk (⟨#[]⟩) false 0))))) rfl (og rfl (op_extract rfl rfl rfl rfl)) ?_
            refine rg_put (d := 82) (v := .d (.fl (.bool false))) rfl (og rfl (op_extract rfl rfl rfl rfl)) ?_
            refine rg_nam (d := 11) (v := .pt 107 0) (m := 107) (nw := [(107, .bx 40 ([.fl (.string (⟨#[]⟩)), .fl (.bool false), .fl (.int .i64 0)]))]) rfl (og rfl (of_eff (s_alloc 107 rfl ti40 (by kernel_rfl) rfl) rfl)) rfl ?_
            refine rg_sto (nw := [(107, .bx 40 ((eSys ((Sys.mk (⟨#[]⟩) false 0)))))]) rfl (og rfl (of_eff (s_store rfl rfl ti40 rfl rfl rfl rfl rfl rfl) rfl)) ?_
            refine rg_put (d := 12) (v := .d (.fl (.bool false))) rfl (og rfl (op_assign rfl rfl rfl)) ?_
            refine rg_done rfl ?_
            refine a_rseq ?_
            refine rg_put (d := 83) (v := .d (.ag (ePnt (ix t.net.pts j)))) rfl (og rfl (of_eff (s_load_pts rfl Try.underlying35 rfl ti35 rfl rfl rfl rfl) rfl)) ?_
            refine rg_put (d := 84) (v := .d (.ag (eSys (((Sys.mk (⟨#[]⟩) false 0)))))) rfl (og rfl (of_eff (s_load_pts rfl Try.underlying40 rfl ti40 rfl rfl rfl rfl) rfl)) ?_
            refine rg_put (d := 85) (v := .d (.fl (.bool false))) rfl (og rfl (op_move rfl rfl rfl)) ?_
            refine rg_put (d := 86) (v := .d (.fl (.bool ((bl (ix t.net.pts j) (((Sys.mk (⟨#[]⟩) false 0))) false))))) rfl (og rfl (op_call rfl Try.func14 nm14 rfl (.cons rfl (.d _) (.cons rfl (.d _) (.cons rfl (.d _) .nil))) (bl_c (ix t.net.pts j) (((Sys.mk (⟨#[]⟩) false 0))) false) rfl)) ?_
            refine rg_put (d := 87) (v := .d (.fl (.bool ((!((bl (ix t.net.pts j) (((Sys.mk (⟨#[]⟩) false 0))) false))))))) rfl (og rfl (op_un rfl rfl (u_not _) rfl)) ?_
            refine rg_done rfl ?_
            refine a_cond rfl (fun h30 => ?_) (fun h30 => ?_)
            · skip
              have h31 := t_not h30
              refine a_rseq ?_
              refine rg_put (d := 2) (v := .d (.fl (.int .i64 16))) rfl (og rfl (op_assign rfl rfl rfl)) ?_
              refine rg_done rfl ?_
              refine a_ret ?_
              show ∃ ds, ResL _ _ _ ds ∧ RV.of ds = _
              refine ⟨[.fl (.int .i64 16)], (.cons (.tmp rfl (.d _)) .nil), ?_⟩
              have hob : okP (ix t.net.pts j) (sF t.syss (ix t.net.pts j).sys) = false := by rw [h29, ← bl_none (hkd j (by omega))]; exact h31
              have hb : pe1 t j = 16 := by unfold pe1; rw [hob]; rfl
              rw [tck_p h1 h4 hs0, show peE t = 16 from fe_yes (by omega) hc hb (by decide)]; rfl
            · skip
              have h32 := f_not h30
              refine a_skip ?_
              show A _ _ _ _ _ _ _
              refine a_region ?_
              refine rg_put (d := 88) (v := .d (.fl (.int .i64 (((j : Int) + 1))))) rfl (og rfl (op_bin rfl rfl rfl (fun x y w => b_add64 _ _ _ x y w (by omega)) rfl)) ?_
              refine rg_put (d := 72) (v := .d (.fl (.int .i64 (((j : Int) + 1))))) rfl (og rfl (op_move rfl rfl rfl)) ?_
              refine rg_done rfl ?_
              have hob : okP (ix t.net.pts j) (sF t.syss (ix t.net.pts j).sys) = true := by rw [h29, ← bl_none (hkd j (by omega))]; exact h32
              have hb : pe1 t j = 0 := by unfold pe1; rw [hob]; rfl
              show ∃ i, _ ∧ _ ∧ Imp _ _ _ _ _
              refine ⟨j + 1, ⟨by omega, fe_no (by omega) hc hb⟩, by omega, imp_forget rfl ⟨rfl, rfl, rfl, rfl, rfl, rfl, rfl, rfl, rfl, rfl, rfl, rfl, (by first | rfl | exact ci (by omega) | exact ci (by simp) | exact cd (by simp) | simp), trivial⟩ ⟨rfl, rfl, trivial⟩⟩
          · skip
            refine rg_put (d := 80) (v := .tu [.ag (eSys qh29), .fl (.bool true)]) rfl (og rfl (op_lookup rfl Try.underlying44 Try.underlying9 rfl ti40 rfl rfl (.ow rfl) rfl (r := (some (.ag (eSys qh29)))) ((mfind_mapS Sys.name (fun x => .ag (eSys x)) _ _).trans (congrArg (fun o => some (Option.map (fun x => DV.ag (eSys x)) o)) h29)) rfl)) ?_
            refine rg_put (d := 76) (v := .tu [.ag (eSys qh29), .fl (.bool true)]) rfl (og rfl (op_move rfl rfl rfl)) ?_
            refine rg_put (d := 81) (v := .d (.ag (eSys qh29))) rfl (og rfl (op_extract rfl rfl rfl rfl)) ?_
            refine rg_put (d := 82) (v := .d (.fl (.bool true))) rfl (og rfl (op_extract rfl rfl rfl rfl)) ?_
            refine rg_nam (d := 11) (v := .pt 108 0) (m := 108) (nw := [(108, .bx 40 ([.fl (.string (⟨#[]⟩)), .fl (.bool false), .fl (.int .i64 0)]))]) rfl (og rfl (of_eff (s_alloc 108 rfl ti40 (by kernel_rfl) rfl) rfl)) rfl ?_
            refine rg_sto (nw := [(108, .bx 40 (eSys qh29))]) rfl (og rfl (of_eff (s_store rfl rfl ti40 rfl rfl rfl rfl rfl rfl) rfl)) ?_
            refine rg_put (d := 12) (v := .d (.fl (.bool true))) rfl (og rfl (op_assign rfl rfl rfl)) ?_
            refine rg_done rfl ?_
            refine a_rseq ?_
            refine rg_put (d := 83) (v := .d (.ag (ePnt (ix t.net.pts j)))) rfl (og rfl (of_eff (s_load_pts rfl Try.underlying35 rfl ti35 rfl rfl rfl rfl) rfl)) ?_
            refine rg_put (d := 84) (v := .d (.ag (eSys qh29))) rfl (og rfl (of_eff (s_load_pts rfl Try.underlying40 rfl ti40 rfl rfl rfl rfl) rfl)) ?_
            refine rg_put (d := 85) (v := .d (.fl (.bool true))) rfl (og rfl (op_move rfl rfl rfl)) ?_
            refine rg_put (d := 86) (v := .d (.fl (.bool ((bl (ix t.net.pts j) qh29 true))))) rfl (og rfl (op_call rfl Try.func14 nm14 rfl (.cons rfl (.d _) (.cons rfl (.d _) (.cons rfl (.d _) .nil))) (bl_c (ix t.net.pts j) qh29 true) rfl)) ?_
            refine rg_put (d := 87) (v := .d (.fl (.bool ((!((bl (ix t.net.pts j) qh29 true))))))) rfl (og rfl (op_un rfl rfl (u_not _) rfl)) ?_
            refine rg_done rfl ?_
            refine a_cond rfl (fun h33 => ?_) (fun h33 => ?_)
            · skip
              have h34 := t_not h33
              refine a_rseq ?_
              refine rg_put (d := 2) (v := .d (.fl (.int .i64 16))) rfl (og rfl (op_assign rfl rfl rfl)) ?_
              refine rg_done rfl ?_
              refine a_ret ?_
              show ∃ ds, ResL _ _ _ ds ∧ RV.of ds = _
              refine ⟨[.fl (.int .i64 16)], (.cons (.tmp rfl (.d _)) .nil), ?_⟩
              have hob : okP (ix t.net.pts j) (sF t.syss (ix t.net.pts j).sys) = false := by rw [h29, ← bl_some (hkd j (by omega))]; exact h34
              have hb : pe1 t j = 16 := by unfold pe1; rw [hob]; rfl
              rw [tck_p h1 h4 hs0, show peE t = 16 from fe_yes (by omega) hc hb (by decide)]; rfl
            · skip
              have h35 := f_not h33
              refine a_skip ?_
              show A _ _ _ _ _ _ _
              refine a_region ?_
              refine rg_put (d := 88) (v := .d (.fl (.int .i64 (((j : Int) + 1))))) rfl (og rfl (op_bin rfl rfl rfl (fun x y w => b_add64 _ _ _ x y w (by omega)) rfl)) ?_
              refine rg_put (d := 72) (v := .d (.fl (.int .i64 (((j : Int) + 1))))) rfl (og rfl (op_move rfl rfl rfl)) ?_
              refine rg_done rfl ?_
              have hob : okP (ix t.net.pts j) (sF t.syss (ix t.net.pts j).sys) = true := by rw [h29, ← bl_some (hkd j (by omega))]; exact h35
              have hb : pe1 t j = 0 := by unfold pe1; rw [hob]; rfl
              show ∃ i, _ ∧ _ ∧ Imp _ _ _ _ _
              refine ⟨j + 1, ⟨by omega, fe_no (by omega) hc hb⟩, by omega, imp_forget rfl ⟨rfl, rfl, rfl, rfl, rfl, rfl, rfl, rfl, rfl, rfl, rfl, rfl, (by first | rfl | exact ci (by omega) | exact ci (by simp) | exact cd (by simp) | simp), trivial⟩ ⟨rfl, rfl, trivial⟩⟩
        · skip
          have h36 := f_dec h27
          refine a_exit ?_
          show A _ _ _ _ _ _ _
          refine a_rseq ?_
          refine rg_put (d := 2) (v := .d (.fl (.int .i64 0))) rfl (og rfl (op_assign rfl rfl rfl)) ?_
          refine rg_done rfl ?_
          refine a_ret ?_
          show ∃ ds, ResL _ _ _ ds ∧ RV.of ds = _
          refine ⟨[.fl (.int .i64 0)], (.cons (.tmp rfl (.d _)) .nil), ?_⟩
          rw [tck_p h1 h4 hs0, show peE t = 0 from by rw [fe_end (by omega)] at hc; exact hc]; rfl
end Go.Proofs.Ytjbhikldmaljaaa.Wk
