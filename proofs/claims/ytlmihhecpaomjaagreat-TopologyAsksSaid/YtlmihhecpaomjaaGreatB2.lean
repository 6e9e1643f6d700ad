/- The check of a topology, both sides. No condition. -/
import Derived.Test.YtlmihhecpaomjaaGreatB1
set_option linter.unusedSimpArgs false
set_option linter.unusedVariables false
namespace Go.Proofs.YtlmihhecpaomjaaGreat.Wk
open Go Go.RowKit Go.Proofs.YtlmihhecpaomjaaGreat.Av
theorem mfind_mapS {α : Type} (key : α → ByteArray) (val : α → DV) (p : ByteArray) : ∀ l : List α, mfind .string (.string p) (l.map fun x => (Value.string (key x), val x)) = some ((l.find? fun x => sEq (key x) p).map val)
  | [] => rfl
  | x :: l => by
    have ih := mfind_mapS key val p l
    have hb : Instr.sameNow .string (.string p) (.string (key x)) = some (sEq (key x) p) := by
      show some (p == key x) = _
      congr 1
      by_cases h : p = key x
      · rw [← h, show sEq p p = true by simp [sEq]]
        exact (MapKept.bytes_beq p p).2 rfl
      · rw [show sEq (key x) p = false from by simp [sEq, Ne.symm h]]
        cases hq : p == key x with
        | false => rfl
        | true => exact absurd ((MapKept.bytes_beq p (key x)).1 hq) h
    simp only [List.map_cons, mfind, hb]
    cases h : sEq (key x) p with
    | true => simp [h]
    | false => simp [h]; exact ih
def sF (l : List Sys) (s : ByteArray) : Option Sys := l.find? fun x => sEq x.name s
def setS (l : List Sys) : List (Value × DV) := l.map fun x => (Value.string x.name, DV.ag (eSys x))
theorem setS_take {l : List Sys} {k : Nat} (h : k < l.length) : setS (l.take k) ++ [(Value.string (ix l k).name, DV.ag (eSys (ix l k)))] = setS (l.take (k + 1)) := by unfold setS; rw [take_ix h, List.map_append]; rfl
noncomputable def sy1 (l : List Sys) (k : Nat) : Int := bif !(Nm.nmB (ix l k).name) then 6 else bif (sF (l.take k) (ix l k).name).isSome then 9 else bif ((decide ((ix l k).most < 0) || decide (2147483648 < (ix l k).most)) || ((ix l k).closed && ((ix l k).most == 0))) then 12 else 0
noncomputable def syE (l : List Sys) : Int := fe (sy1 l) 0 l.length
def okP (p : Pnt) (o : Option Sys) : Bool := bif p.kind == 4 then (o.isSome || sEq p.sys ⟨#[]⟩) else bif p.kind == 1 then (match o with | some s => !s.closed | none => false) else (match o with | some s => s.closed | none => false)
def bl (p : Pnt) (s : Sys) (b : Bool) : Bool := bif p.kind == 4 then (b || sEq p.sys ⟨#[]⟩) else bif (p.kind == 2 || p.kind == 3) then (b && s.closed) else (b && !s.closed)
theorem bl_some {p : Pnt} {s : Sys} (h : 1 ≤ p.kind ∧ p.kind ≤ 4) : bl p s true = okP p (some s) := by
  obtain ⟨h1, h2⟩ := h
  rcases (by omega : p.kind = 1 ∨ p.kind = 2 ∨ p.kind = 3 ∨ p.kind = 4) with h | h | h | h <;> simp [bl, okP, h]
theorem bl_none {p : Pnt} {s : Sys} (h : 1 ≤ p.kind ∧ p.kind ≤ 4) : bl p s false = okP p none := by
  obtain ⟨h1, h2⟩ := h
  rcases (by omega : p.kind = 1 ∨ p.kind = 2 ∨ p.kind = 3 ∨ p.kind = 4) with h | h | h | h <;> simp [bl, okP, h]
def pe1 (t : Tpg) (k : Nat) : Int := bif okP (ix t.net.pts k) (sF t.syss (ix t.net.pts k).sys) then 0 else 16
def peE (t : Tpg) : Int := fe (pe1 t) 0 t.net.pts.length
noncomputable def tck (t : Tpg) : Int := bif gck t.net != 0 then gck t.net else bif decide (64 < (t.syss.length : Int)) then 3 else bif syE t.syss != 0 then syE t.syss else peE t
theorem tck_g {t : Tpg} (h : (gck t.net != 0) = true) : tck t = gck t.net := by unfold tck; rw [h]; rfl
theorem tck_l {t : Tpg} (h : (gck t.net != 0) = false) (h2 : decide (64 < (t.syss.length : Int)) = true) : tck t = 3 := by unfold tck; rw [h, h2]; rfl
theorem tck_s {t : Tpg} {c : Int} (h : (gck t.net != 0) = false) (h2 : decide (64 < (t.syss.length : Int)) = false) (h3 : syE t.syss = c) (hc : c ≠ 0) : tck t = c := by
  unfold tck; rw [h, h2, h3]; show (bif c != 0 then c else _) = c; rw [bne_iff_ne.2 hc]; rfl
theorem tck_p {t : Tpg} (h : (gck t.net != 0) = false) (h2 : decide (64 < (t.syss.length : Int)) = false) (h3 : syE t.syss = 0) : tck t = peE t := by unfold tck; rw [h, h2, h3]; rfl
theorem fe_zero {f : Nat → Int} : ∀ {n i : Nat}, fe f i n = 0 → ∀ k, i ≤ k → k < i + n → f k = 0
  | 0, i, h, k, h1, h2 => by omega
  | n + 1, i, h, k, h1, h2 => by
    unfold fe at h
    split at h
    · rename_i h0
      rcases Nat.eq_or_lt_of_le h1 with e | e
      · subst e; exact h0
      · exact fe_zero h k (by omega) (by omega)
    · rename_i h0; exact absurd h h0
theorem gck_0 {n : Nwk} (h : gck n = 0) : n.pts.length ≤ 64 ∧ n.lks.length ≤ 128 ∧ (∀ k, k < n.pts.length → pt1 n.pts k = 0) ∧ ∀ k, k < n.lks.length → lk1 n.pts n.lks k = 0 := by
  unfold gck at h
  cases h1 : (decide (64 < (n.pts.length : Int)) || decide (128 < (n.lks.length : Int))) with
  | true => rw [h1] at h; cases h
  | false =>
    rw [h1] at h
    simp only [Bool.or_eq_false_iff, decide_eq_false_iff_not] at h1
    cases h2 : (ptE n.pts != 0) with
    | true => rw [h2] at h; exact absurd h (by simpa using h2)
    | false =>
      rw [h2] at h
      have h2' : ptE n.pts = 0 := by simpa using h2
      exact ⟨by omega, by omega, fun k hk => fe_zero h2' k (by omega) (by omega), fun k hk => fe_zero h k (by omega) (by omega)⟩
theorem pt_kind {l : List Pnt} {k : Nat} (h : pt1 l k = 0) : 1 ≤ (ix l k).kind ∧ (ix l k).kind ≤ 4 := by
  unfold pt1 at h
  cases h1 : Nm.nmB (ix l k).name with
  | false => rw [h1] at h; cases h
  | true =>
    cases h2 : dupP (l.take k) (ix l k).name with
    | true => rw [h1, h2] at h; cases h
    | false =>
      cases h3 : (decide ((ix l k).kind < 1) || decide (4 < (ix l k).kind)) with
      | true => rw [h1, h2, h3] at h; cases h
      | false => simp only [Bool.or_eq_false_iff, decide_eq_false_iff_not] at h3; omega
def fIx (l : List Sys) (s : ByteArray) : Int := match l.findIdx? (fun x => sEq x.name s) with
  | some i => (i : Int)
  | none => -1
theorem fIx_no {l : List Sys} {k : Nat} {s : ByteArray} (h : l.length ≤ k) (hq : ∀ q, q < k → sEq (ix l q).name s = false) : fIx l s = -1 := by
  unfold fIx
  rw [List.findIdx?_eq_none_iff.2]
  intro x hx
  obtain ⟨j, hj, rfl⟩ := mem_ix hx
  exact hq j (by omega)
theorem fIx_at {l : List Sys} {k : Nat} {s : ByteArray} (h2 : k < l.length) (hq : ∀ q, q < k → sEq (ix l q).name s = false) (hp : sEq (ix l k).name s = true) : fIx l s = k := by
  unfold fIx
  rw [show l.findIdx? (fun x => sEq x.name s) = some k from ?_]
  rw [List.findIdx?_eq_some_iff_getElem]
  refine ⟨h2, ?_, fun j hj => ?_⟩
  · rw [ix_eq]; exact hp
  · rw [ix_eq, hq j hj]; simp
theorem fIx_cases (l : List Sys) (s : ByteArray) : (fIx l s = -1 ∧ sF l s = none) ∨ ∃ i : Nat, fIx l s = (i : Int) ∧ i < l.length ∧ sF l s = some (ix l i) := by
  unfold fIx sF
  cases h : l.findIdx? (fun x => sEq x.name s) with
  | none =>
    refine .inl ⟨rfl, ?_⟩
    rw [List.findIdx?_eq_none_iff] at h
    exact List.find?_eq_none.2 (fun x hx => by rw [h x hx]; simp)
  | some i =>
    rw [List.findIdx?_eq_some_iff_getElem] at h
    obtain ⟨h1, h2, h3⟩ := h
    refine .inr ⟨i, rfl, h1, ?_⟩
    rw [List.find?_eq_some_iff_getElem]
    exact ⟨by rw [← ix_eq h1]; exact h2, i, h1, by rw [ix_eq], fun j hj => by have := h3 j hj; simpa using this⟩
theorem fIx_ge (l : List Sys) (s : ByteArray) : decide (0 ≤ fIx l s) = (sF l s).isSome := by
  rcases fIx_cases l s with ⟨h, h2⟩ | ⟨i, h, _, h2⟩ <;> rw [h, h2]
  · rfl
  · simp

set_option maxHeartbeats 4000000 in
set_option maxRecDepth 100000 in
theorem bl_c (p : Pnt) (s : Sys) (b : Bool) : Ctr Tryz.prog 43 [.ag (ePnt p), .ag (eSys s), .fl (.bool b)] (.d (.fl (.bool (bl p s b)))) := by
  refine ctr (n := 32) (rs := #[.tmp 6]) (L := [(0, .d (.ag (ePnt p))), (1, .d (.ag (eSys s))), (2, .d (.fl (.bool b)))]) Tryz.func43 rfl rfl rfl rfl rfl (fun w0 U0 => ?_)
  refine a_rseq ?_
  refine rg_nam (d := 3) (v := .pt 101 0) (m := 101) (nw := [(101, .bx 42 (ePnt p))]) rfl (og rfl (of_eff (op_box 101 rfl rfl rfl rfl) rfl)) rfl ?_
  refine rg_nam (d := 4) (v := .pt 102 0) (m := 102) (nw := [(102, .bx 31 (eSys s))]) rfl (og rfl (of_eff (op_box 102 rfl rfl rfl rfl) rfl)) rfl ?_
  refine rg_put (d := 6) (v := .d (.fl (.bool false))) rfl (og rfl (op_assign rfl rfl rfl)) ?_
  refine rg_done rfl ?_
  refine a_seq ?_
  refine a_rseq ?_
  refine rg_put (d := 7) (v := .pt 101 1) rfl (og rfl (of_eff (s_field_pt rfl Tryz.underlying42 rfl ti3 rfl rfl rfl) rfl)) ?_
  refine rg_put (d := 8) (v := .d (.fl (.int .i64 p.kind))) rfl (og rfl (op_load_pt rfl Tryz.underlying3 rfl rfl rfl rfl rfl)) ?_
  refine rg_done rfl ?_
  refine a_block ?_
  refine a_seq ?_
  refine a_block ?_
  refine a_block ?_
  refine a_seq ?_
  refine a_block ?_
  refine a_seq ?_
  refine a_seq ?_
  refine a_rseq ?_
  refine rg_put (d := 10) (v := .d (.fl (.bool (p.kind == 4)))) rfl (og rfl (op_bin rfl rfl rfl (b_eql _ _ _ _) rfl)) ?_
  refine rg_put (d := 9) (v := .d (.fl (.bool (p.kind == 4)))) rfl (og rfl (op_assign rfl rfl rfl)) ?_
  refine rg_done rfl ?_
  refine a_cond rfl (fun h1 => ?_) (fun h1 => ?_)
  · skip
    have h2 := t_beq h1
    refine a_exit ?_
    show A _ _ _ _ _ _ _
    refine a_seq ?_
    refine a_rseq ?_
    refine rg_put (d := 15) (v := .d (.fl (.bool b))) rfl (og rfl (op_move rfl rfl rfl)) ?_
    refine rg_put (d := 16) (v := .d (.fl (.bool b))) rfl (og rfl (op_move rfl rfl rfl)) ?_
    rcases fot b with h3 | h3
    · skip
      refine rg_put (d := 17) (v := .pt 101 2) rfl (oy rfl rfl rfl h3 (of_eff (s_field_pt rfl Tryz.underlying42 rfl ti9 rfl rfl rfl) rfl)) ?_
      refine rg_put (d := 18) (v := .d (.fl (.string p.sys))) rfl (oy rfl rfl rfl h3 (op_load_pt rfl Tryz.underlying9 rfl rfl rfl rfl rfl)) ?_
      refine rg_put (d := 19) (v := .d (.fl (.bool ((sEq p.sys (⟨#[]⟩)))))) rfl (oy rfl rfl rfl h3 (op_bin rfl rfl rfl (b_seq _ _ _) rfl)) ?_
      refine rg_put (d := 20) (v := .d (.fl (.bool ((sEq p.sys (⟨#[]⟩)))))) rfl (og rfl (op_pick rfl rfl (by rw [h3]; rfl) rfl)) ?_
      refine rg_put (d := 6) (v := .d (.fl (.bool ((sEq p.sys (⟨#[]⟩)))))) rfl (og rfl (op_assign rfl rfl rfl)) ?_
      refine rg_done rfl ?_
      refine a_ret ?_
      show ∃ ds, ResL _ _ _ ds ∧ RV.of ds = _
      refine ⟨[.fl (.bool ((sEq p.sys (⟨#[]⟩))))], (.cons (.tmp rfl (.d _)) .nil), ?_⟩
      first
        | (have hu : bl p s b = (sEq p.sys (⟨#[]⟩)) := by
            unfold bl; simp only [h1, h3, Bool.true_or, Bool.false_or, Bool.or_true, Bool.or_false, Bool.not_true, Bool.not_false, cond_true, cond_false, Bool.true_and, Bool.false_and, Bool.and_true, Bool.and_false] <;> rfl
           rw [hu]; rfl)
        | (exfalso; omega)
    · skip
      refine rg_put (d := 17) (v := .d (.fl undef)) rfl (on rfl rfl rfl h3) ?_
      refine rg_put (d := 18) (v := .d (.fl undef)) rfl (on rfl rfl rfl h3) ?_
      refine rg_put (d := 19) (v := .d (.fl undef)) rfl (on rfl rfl rfl h3) ?_
      refine rg_put (d := 20) (v := .d (.fl (.bool true))) rfl (og rfl (op_pick rfl rfl (by rw [h3]; rfl) rfl)) ?_
      refine rg_put (d := 6) (v := .d (.fl (.bool true))) rfl (og rfl (op_assign rfl rfl rfl)) ?_
      refine rg_done rfl ?_
      refine a_ret ?_
      show ∃ ds, ResL _ _ _ ds ∧ RV.of ds = _
      refine ⟨[.fl (.bool true)], (.cons (.tmp rfl (.d _)) .nil), ?_⟩
      first
        | (have hu : bl p s b = true := by
            unfold bl; simp only [h1, h3, Bool.true_or, Bool.false_or, Bool.or_true, Bool.or_false, Bool.not_true, Bool.not_false, cond_true, cond_false, Bool.true_and, Bool.false_and, Bool.and_true, Bool.and_false] <;> rfl
           rw [hu]; rfl)
        | (exfalso; omega)
  · skip
    have h4 := f_beq h1
    refine a_skip ?_
    show A _ _ _ _ _ _ _
    refine a_seq ?_
    refine a_rseq ?_
    refine rg_put (d := 12) (v := .d (.fl (.bool (p.kind == 2)))) rfl (og rfl (op_bin rfl rfl rfl (b_eql _ _ _ _) rfl)) ?_
    refine rg_put (d := 11) (v := .d (.fl (.bool (p.kind == 2)))) rfl (og rfl (op_assign rfl rfl rfl)) ?_
    refine rg_done rfl ?_
    refine a_cond rfl (fun h5 => ?_) (fun h5 => ?_)
    · skip
      have h6 := t_beq h5
      refine a_exit ?_
      show A _ _ _ _ _ _ _
      refine a_seq ?_
      refine a_rseq ?_
      refine rg_put (d := 21) (v := .d (.fl (.bool b))) rfl (og rfl (op_move rfl rfl rfl)) ?_
      refine rg_put (d := 22) (v := .d (.fl (.bool b))) rfl (og rfl (op_move rfl rfl rfl)) ?_
      rcases fot b with h7 | h7
      · skip
        refine rg_put (d := 23) (v := .d (.fl undef)) rfl (on rfl rfl rfl h7) ?_
        refine rg_put (d := 24) (v := .d (.fl undef)) rfl (on rfl rfl rfl h7) ?_
        refine rg_put (d := 25) (v := .d (.fl (.bool false))) rfl (og rfl (op_pick rfl rfl (by rw [h7]; rfl) rfl)) ?_
        refine rg_put (d := 6) (v := .d (.fl (.bool false))) rfl (og rfl (op_assign rfl rfl rfl)) ?_
        refine rg_done rfl ?_
        refine a_ret ?_
        show ∃ ds, ResL _ _ _ ds ∧ RV.of ds = _
        refine ⟨[.fl (.bool false)], (.cons (.tmp rfl (.d _)) .nil), ?_⟩
        first
          | (have hu : bl p s b = false := by
              unfold bl; simp only [h1, h5, h7, Bool.true_or, Bool.false_or, Bool.or_true, Bool.or_false, Bool.not_true, Bool.not_false, cond_true, cond_false, Bool.true_and, Bool.false_and, Bool.and_true, Bool.and_false] <;> rfl
             rw [hu]; rfl)
          | (exfalso; omega)
      · skip
        refine rg_put (d := 23) (v := .pt 102 1) rfl (oy rfl rfl rfl h7 (of_eff (s_field_pt rfl Tryz.underlying31 rfl ti4 rfl rfl rfl) rfl)) ?_
        refine rg_put (d := 24) (v := .d (.fl (.bool s.closed))) rfl (oy rfl rfl rfl h7 (op_load_pt rfl Tryz.underlying4 rfl rfl rfl rfl rfl)) ?_
        refine rg_put (d := 25) (v := .d (.fl (.bool s.closed))) rfl (og rfl (op_pick rfl rfl (by rw [h7]; rfl) rfl)) ?_
        refine rg_put (d := 6) (v := .d (.fl (.bool s.closed))) rfl (og rfl (op_assign rfl rfl rfl)) ?_
        refine rg_done rfl ?_
        refine a_ret ?_
        show ∃ ds, ResL _ _ _ ds ∧ RV.of ds = _
        refine ⟨[.fl (.bool s.closed)], (.cons (.tmp rfl (.d _)) .nil), ?_⟩
        first
          | (have hu : bl p s b = s.closed := by
              unfold bl; simp only [h1, h5, h7, Bool.true_or, Bool.false_or, Bool.or_true, Bool.or_false, Bool.not_true, Bool.not_false, cond_true, cond_false, Bool.true_and, Bool.false_and, Bool.and_true, Bool.and_false] <;> rfl
             rw [hu]; rfl)
          | (exfalso; omega)
    · skip
      have h8 := f_beq h5
      refine a_skip ?_
      show A _ _ _ _ _ _ _
      refine a_rseq ?_
      refine rg_put (d := 14) (v := .d (.fl (.bool (p.kind == 3)))) rfl (og rfl (op_bin rfl rfl rfl (b_eql _ _ _ _) rfl)) ?_
      refine rg_put (d := 13) (v := .d (.fl (.bool (p.kind == 3)))) rfl (og rfl (op_assign rfl rfl rfl)) ?_
      refine rg_done rfl ?_
      refine a_cond rfl (fun h9 => ?_) (fun h9 => ?_)
      · skip
        have h10 := t_beq h9
        refine a_exit ?_
        show A _ _ _ _ _ _ _
        refine a_seq ?_
        refine a_rseq ?_
        refine rg_put (d := 21) (v := .d (.fl (.bool b))) rfl (og rfl (op_move rfl rfl rfl)) ?_
        refine rg_put (d := 22) (v := .d (.fl (.bool b))) rfl (og rfl (op_move rfl rfl rfl)) ?_
        rcases fot b with h11 | h11
        · skip
          refine rg_put (d := 23) (v := .d (.fl undef)) rfl (on rfl rfl rfl h11) ?_
          refine rg_put (d := 24) (v := .d (.fl undef)) rfl (on rfl rfl rfl h11) ?_
          refine rg_put (d := 25) (v := .d (.fl (.bool false))) rfl (og rfl (op_pick rfl rfl (by rw [h11]; rfl) rfl)) ?_
          refine rg_put (d := 6) (v := .d (.fl (.bool false))) rfl (og rfl (op_assign rfl rfl rfl)) ?_
          refine rg_done rfl ?_
          refine a_ret ?_
          show ∃ ds, ResL _ _ _ ds ∧ RV.of ds = _
          refine ⟨[.fl (.bool false)], (.cons (.tmp rfl (.d _)) .nil), ?_⟩
          first
            | (have hu : bl p s b = false := by
                unfold bl; simp only [h1, h5, h9, h11, Bool.true_or, Bool.false_or, Bool.or_true, Bool.or_false, Bool.not_true, Bool.not_false, cond_true, cond_false, Bool.true_and, Bool.false_and, Bool.and_true, Bool.and_false] <;> rfl
               rw [hu]; rfl)
            | (exfalso; omega)
        · skip
          refine rg_put (d := 23) (v := .pt 102 1) rfl (oy rfl rfl rfl h11 (of_eff (s_field_pt rfl Tryz.underlying31 rfl ti4 rfl rfl rfl) rfl)) ?_
          refine rg_put (d := 24) (v := .d (.fl (.bool s.closed))) rfl (oy rfl rfl rfl h11 (op_load_pt rfl Tryz.underlying4 rfl rfl rfl rfl rfl)) ?_
          refine rg_put (d := 25) (v := .d (.fl (.bool s.closed))) rfl (og rfl (op_pick rfl rfl (by rw [h11]; rfl) rfl)) ?_
          refine rg_put (d := 6) (v := .d (.fl (.bool s.closed))) rfl (og rfl (op_assign rfl rfl rfl)) ?_
          refine rg_done rfl ?_
          refine a_ret ?_
          show ∃ ds, ResL _ _ _ ds ∧ RV.of ds = _
          refine ⟨[.fl (.bool s.closed)], (.cons (.tmp rfl (.d _)) .nil), ?_⟩
          first
            | (have hu : bl p s b = s.closed := by
                unfold bl; simp only [h1, h5, h9, h11, Bool.true_or, Bool.false_or, Bool.or_true, Bool.or_false, Bool.not_true, Bool.not_false, cond_true, cond_false, Bool.true_and, Bool.false_and, Bool.and_true, Bool.and_false] <;> rfl
               rw [hu]; rfl)
            | (exfalso; omega)
      · skip
        have h12 := f_beq h9
        refine a_skip ?_
        show A _ _ _ _ _ _ _
        refine a_exit ?_
        show A _ _ _ _ _ _ _
        refine a_rseq ?_
        refine rg_put (d := 26) (v := .d (.fl (.bool b))) rfl (og rfl (op_move rfl rfl rfl)) ?_
        refine rg_put (d := 27) (v := .d (.fl (.bool b))) rfl (og rfl (op_move rfl rfl rfl)) ?_
        rcases fot b with h13 | h13
        · skip
          refine rg_put (d := 28) (v := .d (.fl undef)) rfl (on rfl rfl rfl h13) ?_
          refine rg_put (d := 29) (v := .d (.fl undef)) rfl (on rfl rfl rfl h13) ?_
          refine rg_put (d := 30) (v := .d (.fl undef)) rfl (on rfl rfl rfl h13) ?_
          refine rg_put (d := 31) (v := .d (.fl (.bool false))) rfl (og rfl (op_pick rfl rfl (by rw [h13]; rfl) rfl)) ?_
          refine rg_put (d := 6) (v := .d (.fl (.bool false))) rfl (og rfl (op_assign rfl rfl rfl)) ?_
          refine rg_done rfl ?_
          refine a_ret ?_
          show ∃ ds, ResL _ _ _ ds ∧ RV.of ds = _
          refine ⟨[.fl (.bool false)], (.cons (.tmp rfl (.d _)) .nil), ?_⟩
          first
            | (have hu : bl p s b = false := by
                unfold bl; simp only [h1, h5, h9, h13, Bool.true_or, Bool.false_or, Bool.or_true, Bool.or_false, Bool.not_true, Bool.not_false, cond_true, cond_false, Bool.true_and, Bool.false_and, Bool.and_true, Bool.and_false] <;> rfl
               rw [hu]; rfl)
            | (exfalso; omega)
        · skip
          refine rg_put (d := 28) (v := .pt 102 1) rfl (oy rfl rfl rfl h13 (of_eff (s_field_pt rfl Tryz.underlying31 rfl ti4 rfl rfl rfl) rfl)) ?_
          refine rg_put (d := 29) (v := .d (.fl (.bool s.closed))) rfl (oy rfl rfl rfl h13 (op_load_pt rfl Tryz.underlying4 rfl rfl rfl rfl rfl)) ?_
          refine rg_put (d := 30) (v := .d (.fl (.bool (!s.closed)))) rfl (oy rfl rfl rfl h13 (op_un rfl rfl (u_not _) rfl)) ?_
          refine rg_put (d := 31) (v := .d (.fl (.bool (!s.closed)))) rfl (og rfl (op_pick rfl rfl (by rw [h13]; rfl) rfl)) ?_
          refine rg_put (d := 6) (v := .d (.fl (.bool (!s.closed)))) rfl (og rfl (op_assign rfl rfl rfl)) ?_
          refine rg_done rfl ?_
          refine a_ret ?_
          show ∃ ds, ResL _ _ _ ds ∧ RV.of ds = _
          refine ⟨[.fl (.bool (!s.closed))], (.cons (.tmp rfl (.d _)) .nil), ?_⟩
          first
            | (have hu : bl p s b = (!s.closed) := by
                unfold bl; simp only [h1, h5, h9, h13, Bool.true_or, Bool.false_or, Bool.or_true, Bool.or_false, Bool.not_true, Bool.not_false, cond_true, cond_false, Bool.true_and, Bool.false_and, Bool.and_true, Bool.and_false] <;> rfl
               rw [hu]; rfl)
            | (exfalso; omega)
set_option maxHeartbeats 4000000 in
set_option maxRecDepth 100000 in
theorem find_c (l : List Sys) (s : ByteArray) (r : Int) (hl : l.length ≤ 1000000) (hr : fIx l s = r) : Ctr Tryz.prog 18 [.sl 3 (List.map eSys l), .fl (.string s)] (.d (.fl (.int .i64 r))) := by
  refine ctr (n := 20) (rs := #[.tmp 4]) (L := [(0, .d (.sl 3 (List.map eSys l))), (1, .d (.fl (.string s)))]) Tryz.func18 rfl rfl rfl rfl rfl (fun w0 U0 => ?_)
  refine a_rseq ?_
  refine rg_put (d := 4) (v := .d (.fl (.int .i64 0))) rfl (og rfl (op_assign rfl rfl rfl)) ?_
  refine rg_done rfl ?_
  refine a_seq ?_
  refine a_rseq ?_
  refine rg_put (d := 5) (v := .d (.fl (.int .i64 0))) rfl (og rfl (op_assign rfl rfl rfl)) ?_
  refine rg_done rfl ?_
  refine a_block ?_
  refine a_loop (ι := Nat) (fun k => SS [(0, .d (.sl 3 (List.map eSys l))), (1, .d (.fl (.string s))), (5, .d (.fl (.int .i64 (k : Int))))] []) (fun k => k ≤ l.length ∧ ∀ q, q < k → (sEq (ix l q).name s) = false) (fun k => l.length - k) 0 (⟨by omega, fun q h => by omega⟩) (imp_forget rfl ⟨rfl, rfl, (by first | rfl | exact ci (by omega) | exact ci (by simp) | exact cd (by simp) | simp), trivial⟩ trivial) (fun k hok => ?_)
  obtain ⟨hkk, hq⟩ := hok
  refine a_seq ?_
  refine a_rseq ?_
  refine rg_put (d := 6) (v := .d (.fl (.int .i64 (k : Int)))) rfl (og rfl (op_move rfl rfl rfl)) ?_
  refine rg_put (d := 7) (v := .d (.sl 3 (List.map eSys l))) rfl (og rfl (op_move rfl rfl rfl)) ?_
  refine rg_put (d := 8) (v := .d (.fl (.int .i64 (l.length : Int)))) rfl (og rfl (s_len rfl Tryz.underlying26 rfl rfl)) ?_
  refine rg_put (d := 9) (v := .d (.fl (.bool ((decide ((k : Int) < (l.length : Int))))))) rfl (og rfl (op_bin rfl rfl rfl (b_lss _ _ _ _) rfl)) ?_
  refine rg_done rfl ?_
  refine a_cond rfl (fun h1 => ?_) (fun h1 => ?_)
  · skip
    have h2 := t_dec h1
    refine a_skip ?_
    show A _ _ _ _ _ _ _
    refine a_seq ?_
    refine a_block ?_
    refine a_rseq ?_
    refine rg_put (d := 12) (v := .d (.sl 3 (List.map eSys l))) rfl (og rfl (op_move rfl rfl rfl)) ?_
    refine rg_put (d := 13) (v := .d (.fl (.int .i64 (k : Int)))) rfl (og rfl (op_move rfl rfl rfl)) ?_
    refine rg_put (d := 14) (v := .el ((eSys (ix l k)))) rfl (og rfl (s_index rfl Tryz.underlying26 ti31 rfl rfl (by omega) (row_at (by omega)) rfl)) ?_
    refine rg_put (d := 15) (v := .el ((List.drop 0 ((eSys (ix l k)))))) rfl (og rfl (of_eff (s_field_el rfl Tryz.underlying31 rfl ti9 rfl rfl rfl) rfl)) ?_
    refine rg_put (d := 16) (v := .d (.fl (.string ((ix l k).name)))) rfl (og rfl (op_load_el rfl Tryz.underlying9 rfl rfl rfl rfl)) ?_
    refine rg_put (d := 17) (v := .d (.fl (.string s))) rfl (og rfl (op_move rfl rfl rfl)) ?_
    refine rg_put (d := 18) (v := .d (.fl (.bool ((sEq ((ix l k).name) s))))) rfl (og rfl (op_bin rfl rfl rfl (b_seq _ _ _) rfl)) ?_
    refine rg_done rfl ?_
    refine a_cond rfl (fun h3 => ?_) (fun h3 => ?_)
    · skip
      refine a_rseq ?_
      refine rg_put (d := 19) (v := .d (.fl (.int .i64 (k : Int)))) rfl (og rfl (op_move rfl rfl rfl)) ?_
      refine rg_put (d := 4) (v := .d (.fl (.int .i64 (k : Int)))) rfl (og rfl (op_assign rfl rfl rfl)) ?_
      refine rg_done rfl ?_
      refine a_ret ?_
      show ∃ ds, ResL _ _ _ ds ∧ RV.of ds = _
      refine ⟨[.fl (.int .i64 (k : Int))], (.cons (.tmp rfl (.d _)) .nil), ?_⟩
      rw [← hr, fIx_at (by omega) hq h3]; rfl
    · skip
      refine a_skip ?_
      show A _ _ _ _ _ _ _
      refine a_region ?_
      refine rg_put (d := 10) (v := .d (.fl (.int .i64 (k : Int)))) rfl (og rfl (op_move rfl rfl rfl)) ?_
      refine rg_put (d := 11) (v := .d (.fl (.int .i64 (((k : Int) + 1))))) rfl (og rfl (op_bin rfl rfl rfl (fun x y w => b_add64 _ _ _ x y w (by omega)) rfl)) ?_
      refine rg_put (d := 5) (v := .d (.fl (.int .i64 (((k : Int) + 1))))) rfl (og rfl (op_assign rfl rfl rfl)) ?_
      refine rg_done rfl ?_
      have hx : (sEq (ix l k).name s) = false := h3
      show ∃ i, _ ∧ _ ∧ Imp _ _ _ _ _
      refine ⟨k + 1, ⟨by omega, fun q h => (Nat.lt_succ_iff_lt_or_eq.1 h).elim (hq q) (fun e => by rw [e]; exact hx)⟩, by omega, imp_forget rfl ⟨rfl, rfl, (by first | rfl | exact ci (by omega) | exact ci (by simp) | exact cd (by simp) | simp), trivial⟩ trivial⟩
  · skip
    have h4 := f_dec h1
    refine a_exit ?_
    show A _ _ _ _ _ _ _
    refine a_rseq ?_
    refine rg_put (d := 4) (v := .d (.fl (.int .i64 (-1)))) rfl (og rfl (op_assign rfl rfl rfl)) ?_
    refine rg_done rfl ?_
    refine a_ret ?_
    show ∃ ds, ResL _ _ _ ds ∧ RV.of ds = _
    refine ⟨[.fl (.int .i64 (-1))], (.cons (.tmp rfl (.d _)) .nil), ?_⟩
    rw [← hr, fIx_no (k := k) (by omega) (fun q h => hq q (by omega))]; rfl
set_option maxHeartbeats 4000000 in
set_option maxRecDepth 100000 in
theorem pnt_c (t : Tpg) (p : Pnt) (hl : t.syss.length ≤ 1000000) : Ctr Tryz.prog 47 [.ag (eTpg t), .ag (ePnt p)] (.d (.fl (.int .i64 (bif okP p (sF t.syss p.sys) then 0 else 16)))) := by
  refine ctr (n := 47) (rs := #[.tmp 4]) (L := [(0, .d (.ag (eTpg t))), (1, .d (.ag (ePnt p)))]) Tryz.func47 rfl rfl rfl rfl rfl (fun w0 U0 => ?_)
  refine a_rseq ?_
  refine rg_nam (d := 2) (v := .pt 101 0) (m := 101) (nw := [(101, .bx 28 (eTpg t))]) rfl (og rfl (of_eff (op_box 101 rfl rfl rfl rfl) rfl)) rfl ?_
  refine rg_nam (d := 3) (v := .pt 102 0) (m := 102) (nw := [(102, .bx 42 (ePnt p))]) rfl (og rfl (of_eff (op_box 102 rfl rfl rfl rfl) rfl)) rfl ?_
  refine rg_put (d := 4) (v := .d (.fl (.int .i64 0))) rfl (og rfl (op_assign rfl rfl rfl)) ?_
  refine rg_done rfl ?_
  refine a_rseq ?_
  refine rg_put (d := 7) (v := .pt 101 2) rfl (og rfl (of_eff (s_field_pt rfl Tryz.underlying28 rfl ti26 rfl rfl rfl) rfl)) ?_
  refine rg_put (d := 8) (v := .d (.sl 3 (List.map eSys t.syss))) rfl (og rfl (op_load_pt rfl Tryz.underlying26 rfl rfl rfl rfl rfl)) ?_
  refine rg_put (d := 9) (v := .pt 102 2) rfl (og rfl (of_eff (s_field_pt rfl Tryz.underlying42 rfl ti9 rfl rfl rfl) rfl)) ?_
  refine rg_put (d := 10) (v := .d (.fl (.string p.sys))) rfl (og rfl (op_load_pt rfl Tryz.underlying9 rfl rfl rfl rfl rfl)) ?_
  rcases fIx_cases t.syss p.sys with ⟨h1, h1f⟩ | ⟨qh1, h1, h1l, h1f⟩
  · skip
    refine rg_put (d := 11) (v := .d (.fl (.int .i64 (-1)))) rfl (og rfl (op_call rfl Tryz.func18 nm18 rfl (.cons rfl (.d _) (.cons rfl (.d _) .nil)) (find_c t.syss p.sys _ (by omega) h1) rfl)) ?_
    refine rg_put (d := 5) (v := .d (.fl (.int .i64 (-1)))) rfl (og rfl (op_assign rfl rfl rfl)) ?_
    refine rg_done rfl ?_
    refine a_rseq ?_
    refine rg_put (d := 12) (v := .d (.fl (.int .i64 (-1)))) rfl (og rfl (op_move rfl rfl rfl)) ?_
    refine rg_put (d := 13) (v := .d (.fl (.bool ((decide (0 ≤ (-1))))))) rfl (og rfl (op_bin rfl rfl rfl (b_geq _ _ _ _) rfl)) ?_
    refine rg_put (d := 6) (v := .d (.fl (.bool ((decide (0 ≤ (-1))))))) rfl (og rfl (op_assign rfl rfl rfl)) ?_
    refine rg_done rfl ?_
    refine a_seq ?_
    refine a_rseq ?_
    refine rg_put (d := 14) (v := .pt 102 1) rfl (og rfl (of_eff (s_field_pt rfl Tryz.underlying42 rfl ti3 rfl rfl rfl) rfl)) ?_
    refine rg_put (d := 15) (v := .d (.fl (.int .i64 p.kind))) rfl (og rfl (op_load_pt rfl Tryz.underlying3 rfl rfl rfl rfl rfl)) ?_
    refine rg_put (d := 16) (v := .d (.fl (.bool (p.kind == 1)))) rfl (og rfl (op_bin rfl rfl rfl (b_eql _ _ _ _) rfl)) ?_
    refine rg_done rfl ?_
    refine a_cond rfl (fun h2 => ?_) (fun h2 => ?_)
    · skip
      have h3 := t_beq h2
      refine a_region ?_
      refine rg_put (d := 17) (v := .d (.fl (.bool ((decide (0 ≤ (-1))))))) rfl (og rfl (op_move rfl rfl rfl)) ?_
      refine rg_put (d := 18) (v := .d (.fl (.bool ((decide (0 ≤ (-1))))))) rfl (og rfl (op_move rfl rfl rfl)) ?_
      rcases fot ((decide (0 ≤ (-1)))) with h4 | h4
      · skip
        have h5 := f_dec h4
        refine rg_put (d := 19) (v := .d (.fl undef)) rfl (on rfl rfl rfl h4) ?_
        refine rg_put (d := 20) (v := .d (.fl undef)) rfl (on rfl rfl rfl h4) ?_
        refine rg_put (d := 21) (v := .d (.fl undef)) rfl (on rfl rfl rfl h4) ?_
        refine rg_put (d := 22) (v := .d (.fl undef)) rfl (on rfl rfl rfl h4) ?_
        refine rg_put (d := 23) (v := .d (.fl undef)) rfl (on rfl rfl rfl h4) ?_
        refine rg_put (d := 24) (v := .d (.fl undef)) rfl (on rfl rfl rfl h4) ?_
        refine rg_put (d := 25) (v := .d (.fl undef)) rfl (on rfl rfl rfl h4) ?_
        refine rg_put (d := 26) (v := .d (.fl (.bool false))) rfl (og rfl (op_pick rfl rfl (by rw [h4]; rfl) rfl)) ?_
        refine rg_put (d := 6) (v := .d (.fl (.bool false))) rfl (og rfl (op_assign rfl rfl rfl)) ?_
        refine rg_done rfl ?_
        show A _ _ _ _ _ _ _
        refine a_seq ?_
        refine a_rseq ?_
        refine rg_put (d := 45) (v := .d (.fl (.bool false))) rfl (og rfl (op_move rfl rfl rfl)) ?_
        refine rg_put (d := 46) (v := .d (.fl (.bool (!false)))) rfl (og rfl (op_un rfl rfl (u_not _) rfl)) ?_
        refine rg_done rfl ?_
        refine a_condK rfl rfl ?_
        refine a_rseq ?_
        refine rg_put (d := 4) (v := .d (.fl (.int .i64 16))) rfl (og rfl (op_assign rfl rfl rfl)) ?_
        refine rg_done rfl ?_
        refine a_ret ?_
        show ∃ ds, ResL _ _ _ ds ∧ RV.of ds = _
        refine ⟨[.fl (.int .i64 16)], (.cons (.tmp rfl (.d _)) .nil), ?_⟩
        have e4 : (p.kind == 4) = false := by rw [beq_eq_false_iff_ne]; have := t_beq h2; omega
        first
          | (have hu : okP p (sF t.syss p.sys) = false := by
              unfold okP; rw [h1f]; simp only [e4, h2, h4, Bool.true_or, Bool.false_or, Bool.or_true, Bool.or_false, Bool.not_true, Bool.not_false, cond_true, cond_false, Bool.true_and, Bool.false_and, Bool.and_true, Bool.and_false, Option.isSome] <;> rfl
             rw [hu]; rfl)
          | (exfalso; omega)
      · skip
        have h6 := t_dec h4
        refine rg_put (d := 19) (v := .pt 101 2) rfl (oy rfl rfl rfl h4 (of_eff (s_field_pt rfl Tryz.underlying28 rfl ti26 rfl rfl rfl) rfl)) ?_
        refine rg_put (d := 20) (v := .d (.sl 3 (List.map eSys t.syss))) rfl (oy rfl rfl rfl h4 (op_load_pt rfl Tryz.underlying26 rfl rfl rfl rfl rfl)) ?_
        refine rg_put (d := 21) (v := .d (.fl (.int .i64 (-1)))) rfl (oy rfl rfl rfl h4 (op_move rfl rfl rfl)) ?_
        refine rg_put (d := 22) (v := .el ((eSys ((ix t.syss ((-1)).toNat))))) rfl (oy rfl rfl rfl h4 (s_index rfl Tryz.underlying26 ti31 rfl rfl (by omega) (row_atI (by omega) (by omega)) rfl)) ?_
        refine rg_put (d := 23) (v := .el ((List.drop 1 ((eSys ((ix t.syss ((-1)).toNat))))))) rfl (oy rfl rfl rfl h4 (of_eff (s_field_el rfl Tryz.underlying31 rfl ti4 rfl rfl rfl) rfl)) ?_
        refine rg_put (d := 24) (v := .d (.fl (.bool (((ix t.syss ((-1)).toNat)).closed)))) rfl (oy rfl rfl rfl h4 (op_load_el rfl Tryz.underlying4 rfl rfl rfl rfl)) ?_
        refine rg_put (d := 25) (v := .d (.fl (.bool ((!(((ix t.syss ((-1)).toNat)).closed)))))) rfl (oy rfl rfl rfl h4 (op_un rfl rfl (u_not _) rfl)) ?_
        refine rg_put (d := 26) (v := .d (.fl (.bool ((!(((ix t.syss ((-1)).toNat)).closed)))))) rfl (og rfl (op_pick rfl rfl (by rw [h4]; rfl) rfl)) ?_
        refine rg_put (d := 6) (v := .d (.fl (.bool ((!(((ix t.syss ((-1)).toNat)).closed)))))) rfl (og rfl (op_assign rfl rfl rfl)) ?_
        refine rg_done rfl ?_
        show A _ _ _ _ _ _ _
        refine a_seq ?_
        refine a_rseq ?_
        refine rg_put (d := 45) (v := .d (.fl (.bool ((!(((ix t.syss ((-1)).toNat)).closed)))))) rfl (og rfl (op_move rfl rfl rfl)) ?_
        refine rg_put (d := 46) (v := .d (.fl (.bool ((!((!(((ix t.syss ((-1)).toNat)).closed)))))))) rfl (og rfl (op_un rfl rfl (u_not _) rfl)) ?_
        refine rg_done rfl ?_
        refine a_cond rfl (fun h7 => ?_) (fun h7 => ?_)
        · skip
          have h8 := t_not h7
          have h9 := f_not h8
          refine a_rseq ?_
          refine rg_put (d := 4) (v := .d (.fl (.int .i64 16))) rfl (og rfl (op_assign rfl rfl rfl)) ?_
          refine rg_done rfl ?_
          refine a_ret ?_
          show ∃ ds, ResL _ _ _ ds ∧ RV.of ds = _
          refine ⟨[.fl (.int .i64 16)], (.cons (.tmp rfl (.d _)) .nil), ?_⟩
          have e4 : (p.kind == 4) = false := by rw [beq_eq_false_iff_ne]; have := t_beq h2; omega
          first
            | (have hu : okP p (sF t.syss p.sys) = false := by
                unfold okP; rw [h1f]; simp only [e4, h2, h4, h7, h8, h9, Bool.true_or, Bool.false_or, Bool.or_true, Bool.or_false, Bool.not_true, Bool.not_false, cond_true, cond_false, Bool.true_and, Bool.false_and, Bool.and_true, Bool.and_false, Option.isSome] <;> rfl
               rw [hu]; rfl)
            | (exfalso; omega)
        · skip
          have h10 := f_not h7
          have h11 := t_not h10
          refine a_skip ?_
          show A _ _ _ _ _ _ _
          refine a_rseq ?_
          refine rg_put (d := 4) (v := .d (.fl (.int .i64 0))) rfl (og rfl (op_assign rfl rfl rfl)) ?_
          refine rg_done rfl ?_
          refine a_ret ?_
          show ∃ ds, ResL _ _ _ ds ∧ RV.of ds = _
          refine ⟨[.fl (.int .i64 0)], (.cons (.tmp rfl (.d _)) .nil), ?_⟩
          have e4 : (p.kind == 4) = false := by rw [beq_eq_false_iff_ne]; have := t_beq h2; omega
          first
            | (have hu : okP p (sF t.syss p.sys) = true := by
                unfold okP; rw [h1f]; simp only [e4, h2, h4, h7, h10, h11, Bool.true_or, Bool.false_or, Bool.or_true, Bool.or_false, Bool.not_true, Bool.not_false, cond_true, cond_false, Bool.true_and, Bool.false_and, Bool.and_true, Bool.and_false, Option.isSome] <;> rfl
               rw [hu]; rfl)
            | (exfalso; omega)
    · skip
      have h12 := f_beq h2
      refine a_rseq ?_
      refine rg_put (d := 27) (v := .pt 102 1) rfl (og rfl (of_eff (s_field_pt rfl Tryz.underlying42 rfl ti3 rfl rfl rfl) rfl)) ?_
      refine rg_put (d := 28) (v := .d (.fl (.int .i64 p.kind))) rfl (og rfl (op_load_pt rfl Tryz.underlying3 rfl rfl rfl rfl rfl)) ?_
      refine rg_put (d := 29) (v := .d (.fl (.bool (p.kind != 4)))) rfl (og rfl (op_bin rfl rfl rfl (b_neq _ _ _ _) rfl)) ?_
      refine rg_done rfl ?_
      refine a_cond rfl (fun h13 => ?_) (fun h13 => ?_)
      · skip
        have h14 := t_bne h13
        refine a_region ?_
        refine rg_put (d := 30) (v := .d (.fl (.bool ((decide (0 ≤ (-1))))))) rfl (og rfl (op_move rfl rfl rfl)) ?_
        refine rg_put (d := 31) (v := .d (.fl (.bool ((decide (0 ≤ (-1))))))) rfl (og rfl (op_move rfl rfl rfl)) ?_
        rcases fot ((decide (0 ≤ (-1)))) with h15 | h15
        · skip
          have h16 := f_dec h15
          refine rg_put (d := 32) (v := .d (.fl undef)) rfl (on rfl rfl rfl h15) ?_
          refine rg_put (d := 33) (v := .d (.fl undef)) rfl (on rfl rfl rfl h15) ?_
          refine rg_put (d := 34) (v := .d (.fl undef)) rfl (on rfl rfl rfl h15) ?_
          refine rg_put (d := 35) (v := .d (.fl undef)) rfl (on rfl rfl rfl h15) ?_
          refine rg_put (d := 36) (v := .d (.fl undef)) rfl (on rfl rfl rfl h15) ?_
          refine rg_put (d := 37) (v := .d (.fl undef)) rfl (on rfl rfl rfl h15) ?_
          refine rg_put (d := 38) (v := .d (.fl (.bool false))) rfl (og rfl (op_pick rfl rfl (by rw [h15]; rfl) rfl)) ?_
          refine rg_put (d := 6) (v := .d (.fl (.bool false))) rfl (og rfl (op_assign rfl rfl rfl)) ?_
          refine rg_done rfl ?_
          show A _ _ _ _ _ _ _
          refine a_seq ?_
          refine a_rseq ?_
          refine rg_put (d := 45) (v := .d (.fl (.bool false))) rfl (og rfl (op_move rfl rfl rfl)) ?_
          refine rg_put (d := 46) (v := .d (.fl (.bool (!false)))) rfl (og rfl (op_un rfl rfl (u_not _) rfl)) ?_
          refine rg_done rfl ?_
          refine a_condK rfl rfl ?_
          refine a_rseq ?_
          refine rg_put (d := 4) (v := .d (.fl (.int .i64 16))) rfl (og rfl (op_assign rfl rfl rfl)) ?_
          refine rg_done rfl ?_
          refine a_ret ?_
          show ∃ ds, ResL _ _ _ ds ∧ RV.of ds = _
          refine ⟨[.fl (.int .i64 16)], (.cons (.tmp rfl (.d _)) .nil), ?_⟩
          have e4 : (p.kind == 4) = false := by rw [beq_eq_false_iff_ne]; exact t_bne h13
          first
            | (have hu : okP p (sF t.syss p.sys) = false := by
                unfold okP; rw [h1f]; simp only [e4, h2, h13, h15, Bool.true_or, Bool.false_or, Bool.or_true, Bool.or_false, Bool.not_true, Bool.not_false, cond_true, cond_false, Bool.true_and, Bool.false_and, Bool.and_true, Bool.and_false, Option.isSome] <;> rfl
               rw [hu]; rfl)
            | (exfalso; omega)
        · skip
          have h17 := t_dec h15
          refine rg_put (d := 32) (v := .pt 101 2) rfl (oy rfl rfl rfl h15 (of_eff (s_field_pt rfl Tryz.underlying28 rfl ti26 rfl rfl rfl) rfl)) ?_
          refine rg_put (d := 33) (v := .d (.sl 3 (List.map eSys t.syss))) rfl (oy rfl rfl rfl h15 (op_load_pt rfl Tryz.underlying26 rfl rfl rfl rfl rfl)) ?_
          refine rg_put (d := 34) (v := .d (.fl (.int .i64 (-1)))) rfl (oy rfl rfl rfl h15 (op_move rfl rfl rfl)) ?_
          refine rg_put (d := 35) (v := .el ((eSys ((ix t.syss ((-1)).toNat))))) rfl (oy rfl rfl rfl h15 (s_index rfl Tryz.underlying26 ti31 rfl rfl (by omega) (row_atI (by omega) (by omega)) rfl)) ?_
          refine rg_put (d := 36) (v := .el ((List.drop 1 ((eSys ((ix t.syss ((-1)).toNat))))))) rfl (oy rfl rfl rfl h15 (of_eff (s_field_el rfl Tryz.underlying31 rfl ti4 rfl rfl rfl) rfl)) ?_
          refine rg_put (d := 37) (v := .d (.fl (.bool (((ix t.syss ((-1)).toNat)).closed)))) rfl (oy rfl rfl rfl h15 (op_load_el rfl Tryz.underlying4 rfl rfl rfl rfl)) ?_
          refine rg_put (d := 38) (v := .d (.fl (.bool (((ix t.syss ((-1)).toNat)).closed)))) rfl (og rfl (op_pick rfl rfl (by rw [h15]; rfl) rfl)) ?_
          refine rg_put (d := 6) (v := .d (.fl (.bool (((ix t.syss ((-1)).toNat)).closed)))) rfl (og rfl (op_assign rfl rfl rfl)) ?_
          refine rg_done rfl ?_
          show A _ _ _ _ _ _ _
          refine a_seq ?_
          refine a_rseq ?_
          refine rg_put (d := 45) (v := .d (.fl (.bool (((ix t.syss ((-1)).toNat)).closed)))) rfl (og rfl (op_move rfl rfl rfl)) ?_
          refine rg_put (d := 46) (v := .d (.fl (.bool ((!(((ix t.syss ((-1)).toNat)).closed)))))) rfl (og rfl (op_un rfl rfl (u_not _) rfl)) ?_
          refine rg_done rfl ?_
          refine a_cond rfl (fun h18 => ?_) (fun h18 => ?_)
          · skip
            have h19 := t_not h18
            refine a_rseq ?_
            refine rg_put (d := 4) (v := .d (.fl (.int .i64 16))) rfl (og rfl (op_assign rfl rfl rfl)) ?_
            refine rg_done rfl ?_
            refine a_ret ?_
            show ∃ ds, ResL _ _ _ ds ∧ RV.of ds = _
            refine ⟨[.fl (.int .i64 16)], (.cons (.tmp rfl (.d _)) .nil), ?_⟩
            have e4 : (p.kind == 4) = false := by rw [beq_eq_false_iff_ne]; exact t_bne h13
            first
              | (have hu : okP p (sF t.syss p.sys) = false := by
                  unfold okP; rw [h1f]; simp only [e4, h2, h13, h15, h18, h19, Bool.true_or, Bool.false_or, Bool.or_true, Bool.or_false, Bool.not_true, Bool.not_false, cond_true, cond_false, Bool.true_and, Bool.false_and, Bool.and_true, Bool.and_false, Option.isSome] <;> rfl
                 rw [hu]; rfl)
              | (exfalso; omega)
          · skip
            have h20 := f_not h18
            refine a_skip ?_
            show A _ _ _ _ _ _ _
            refine a_rseq ?_
            refine rg_put (d := 4) (v := .d (.fl (.int .i64 0))) rfl (og rfl (op_assign rfl rfl rfl)) ?_
            refine rg_done rfl ?_
            refine a_ret ?_
            show ∃ ds, ResL _ _ _ ds ∧ RV.of ds = _
            refine ⟨[.fl (.int .i64 0)], (.cons (.tmp rfl (.d _)) .nil), ?_⟩
            have e4 : (p.kind == 4) = false := by rw [beq_eq_false_iff_ne]; exact t_bne h13
            first
              | (have hu : okP p (sF t.syss p.sys) = true := by
                  unfold okP; rw [h1f]; simp only [e4, h2, h13, h15, h18, h20, Bool.true_or, Bool.false_or, Bool.or_true, Bool.or_false, Bool.not_true, Bool.not_false, cond_true, cond_false, Bool.true_and, Bool.false_and, Bool.and_true, Bool.and_false, Option.isSome] <;> rfl
                 rw [hu]; rfl)
              | (exfalso; omega)
      · skip
        have h21 := f_bne h13
        refine a_region ?_
        refine rg_put (d := 39) (v := .d (.fl (.bool ((decide (0 ≤ (-1))))))) rfl (og rfl (op_move rfl rfl rfl)) ?_
        refine rg_put (d := 40) (v := .d (.fl (.bool ((decide (0 ≤ (-1))))))) rfl (og rfl (op_move rfl rfl rfl)) ?_
        rcases fot ((decide (0 ≤ (-1)))) with h22 | h22
        · skip
          have h23 := f_dec h22
          refine rg_put (d := 41) (v := .pt 102 2) rfl (oy rfl rfl rfl h22 (of_eff (s_field_pt rfl Tryz.underlying42 rfl ti9 rfl rfl rfl) rfl)) ?_
          refine rg_put (d := 42) (v := .d (.fl (.string p.sys))) rfl (oy rfl rfl rfl h22 (op_load_pt rfl Tryz.underlying9 rfl rfl rfl rfl rfl)) ?_
          refine rg_put (d := 43) (v := .d (.fl (.bool ((sEq p.sys (⟨#[]⟩)))))) rfl (oy rfl rfl rfl h22 (op_bin rfl rfl rfl (b_seq _ _ _) rfl)) ?_
          refine rg_put (d := 44) (v := .d (.fl (.bool ((sEq p.sys (⟨#[]⟩)))))) rfl (og rfl (op_pick rfl rfl (by rw [h22]; rfl) rfl)) ?_
          refine rg_put (d := 6) (v := .d (.fl (.bool ((sEq p.sys (⟨#[]⟩)))))) rfl (og rfl (op_assign rfl rfl rfl)) ?_
          refine rg_done rfl ?_
          show A _ _ _ _ _ _ _
          refine a_seq ?_
          refine a_rseq ?_
          refine rg_put (d := 45) (v := .d (.fl (.bool ((sEq p.sys (⟨#[]⟩)))))) rfl (og rfl (op_move rfl rfl rfl)) ?_
          refine rg_put (d := 46) (v := .d (.fl (.bool ((!((sEq p.sys (⟨#[]⟩)))))))) rfl (og rfl (op_un rfl rfl (u_not _) rfl)) ?_
          refine rg_done rfl ?_
          refine a_cond rfl (fun h24 => ?_) (fun h24 => ?_)
          · skip
            have h25 := t_not h24
            refine a_rseq ?_
            refine rg_put (d := 4) (v := .d (.fl (.int .i64 16))) rfl (og rfl (op_assign rfl rfl rfl)) ?_
            refine rg_done rfl ?_
            refine a_ret ?_
            show ∃ ds, ResL _ _ _ ds ∧ RV.of ds = _
            refine ⟨[.fl (.int .i64 16)], (.cons (.tmp rfl (.d _)) .nil), ?_⟩
            have e4 : (p.kind == 4) = true := by rw [beq_iff_eq]; have := f_bne h13; omega
            first
              | (have hu : okP p (sF t.syss p.sys) = false := by
                  unfold okP; rw [h1f]; simp only [e4, h2, h13, h22, h24, h25, Bool.true_or, Bool.false_or, Bool.or_true, Bool.or_false, Bool.not_true, Bool.not_false, cond_true, cond_false, Bool.true_and, Bool.false_and, Bool.and_true, Bool.and_false, Option.isSome] <;> rfl
                 rw [hu]; rfl)
              | (exfalso; omega)
          · skip
            have h26 := f_not h24
            refine a_skip ?_
            show A _ _ _ _ _ _ _
            refine a_rseq ?_
            refine rg_put (d := 4) (v := .d (.fl (.int .i64 0))) rfl (og rfl (op_assign rfl rfl rfl)) ?_
            refine rg_done rfl ?_
            refine a_ret ?_
            show ∃ ds, ResL _ _ _ ds ∧ RV.of ds = _
            refine ⟨[.fl (.int .i64 0)], (.cons (.tmp rfl (.d _)) .nil), ?_⟩
            have e4 : (p.kind == 4) = true := by rw [beq_iff_eq]; have := f_bne h13; omega
            first
              | (have hu : okP p (sF t.syss p.sys) = true := by
                  unfold okP; rw [h1f]; simp only [e4, h2, h13, h22, h24, h26, Bool.true_or, Bool.false_or, Bool.or_true, Bool.or_false, Bool.not_true, Bool.not_false, cond_true, cond_false, Bool.true_and, Bool.false_and, Bool.and_true, Bool.and_false, Option.isSome] <;> rfl
                 rw [hu]; rfl)
              | (exfalso; omega)
        · skip
          have h27 := t_dec h22
          refine rg_put (d := 41) (v := .d (.fl undef)) rfl (on rfl rfl rfl h22) ?_
          refine rg_put (d := 42) (v := .d (.fl undef)) rfl (on rfl rfl rfl h22) ?_
          refine rg_put (d := 43) (v := .d (.fl undef)) rfl (on rfl rfl rfl h22) ?_
          refine rg_put (d := 44) (v := .d (.fl (.bool true))) rfl (og rfl (op_pick rfl rfl (by rw [h22]; rfl) rfl)) ?_
          refine rg_put (d := 6) (v := .d (.fl (.bool true))) rfl (og rfl (op_assign rfl rfl rfl)) ?_
          refine rg_done rfl ?_
          show A _ _ _ _ _ _ _
          refine a_seq ?_
          refine a_rseq ?_
          refine rg_put (d := 45) (v := .d (.fl (.bool true))) rfl (og rfl (op_move rfl rfl rfl)) ?_
          refine rg_put (d := 46) (v := .d (.fl (.bool (!true)))) rfl (og rfl (op_un rfl rfl (u_not _) rfl)) ?_
          refine rg_done rfl ?_
          refine a_condF rfl rfl ?_
          refine a_skip ?_
          show A _ _ _ _ _ _ _
          refine a_rseq ?_
          refine rg_put (d := 4) (v := .d (.fl (.int .i64 0))) rfl (og rfl (op_assign rfl rfl rfl)) ?_
          refine rg_done rfl ?_
          refine a_ret ?_
          show ∃ ds, ResL _ _ _ ds ∧ RV.of ds = _
          refine ⟨[.fl (.int .i64 0)], (.cons (.tmp rfl (.d _)) .nil), ?_⟩
          have e4 : (p.kind == 4) = true := by rw [beq_iff_eq]; have := f_bne h13; omega
          first
            | (have hu : okP p (sF t.syss p.sys) = true := by
                unfold okP; rw [h1f]; simp only [e4, h2, h13, h22, Bool.true_or, Bool.false_or, Bool.or_true, Bool.or_false, Bool.not_true, Bool.not_false, cond_true, cond_false, Bool.true_and, Bool.false_and, Bool.and_true, Bool.and_false, Option.isSome] <;> rfl
               rw [hu]; rfl)
            | (exfalso; omega)
  · skip
    refine rg_put (d := 11) (v := .d (.fl (.int .i64 (qh1 : Int)))) rfl (og rfl (op_call rfl Tryz.func18 nm18 rfl (.cons rfl (.d _) (.cons rfl (.d _) .nil)) (find_c t.syss p.sys _ (by omega) h1) rfl)) ?_
    refine rg_put (d := 5) (v := .d (.fl (.int .i64 (qh1 : Int)))) rfl (og rfl (op_assign rfl rfl rfl)) ?_
    refine rg_done rfl ?_
    refine a_rseq ?_
    refine rg_put (d := 12) (v := .d (.fl (.int .i64 (qh1 : Int)))) rfl (og rfl (op_move rfl rfl rfl)) ?_
    refine rg_put (d := 13) (v := .d (.fl (.bool ((decide (0 ≤ (qh1 : Int))))))) rfl (og rfl (op_bin rfl rfl rfl (b_geq _ _ _ _) rfl)) ?_
    refine rg_put (d := 6) (v := .d (.fl (.bool ((decide (0 ≤ (qh1 : Int))))))) rfl (og rfl (op_assign rfl rfl rfl)) ?_
    refine rg_done rfl ?_
    refine a_seq ?_
    refine a_rseq ?_
    refine rg_put (d := 14) (v := .pt 102 1) rfl (og rfl (of_eff (s_field_pt rfl Tryz.underlying42 rfl ti3 rfl rfl rfl) rfl)) ?_
    refine rg_put (d := 15) (v := .d (.fl (.int .i64 p.kind))) rfl (og rfl (op_load_pt rfl Tryz.underlying3 rfl rfl rfl rfl rfl)) ?_
    refine rg_put (d := 16) (v := .d (.fl (.bool (p.kind == 1)))) rfl (og rfl (op_bin rfl rfl rfl (b_eql _ _ _ _) rfl)) ?_
    refine rg_done rfl ?_
    refine a_cond rfl (fun h28 => ?_) (fun h28 => ?_)
    · skip
      have h29 := t_beq h28
      refine a_region ?_
      refine rg_put (d := 17) (v := .d (.fl (.bool ((decide (0 ≤ (qh1 : Int))))))) rfl (og rfl (op_move rfl rfl rfl)) ?_
      refine rg_put (d := 18) (v := .d (.fl (.bool ((decide (0 ≤ (qh1 : Int))))))) rfl (og rfl (op_move rfl rfl rfl)) ?_
      rcases fot ((decide (0 ≤ (qh1 : Int)))) with h30 | h30
      · skip
        have h31 := f_dec h30
        refine rg_put (d := 19) (v := .d (.fl undef)) rfl (on rfl rfl rfl h30) ?_
        refine rg_put (d := 20) (v := .d (.fl undef)) rfl (on rfl rfl rfl h30) ?_
        refine rg_put (d := 21) (v := .d (.fl undef)) rfl (on rfl rfl rfl h30) ?_
        refine rg_put (d := 22) (v := .d (.fl undef)) rfl (on rfl rfl rfl h30) ?_
        refine rg_put (d := 23) (v := .d (.fl undef)) rfl (on rfl rfl rfl h30) ?_
        refine rg_put (d := 24) (v := .d (.fl undef)) rfl (on rfl rfl rfl h30) ?_
        refine rg_put (d := 25) (v := .d (.fl undef)) rfl (on rfl rfl rfl h30) ?_
        refine rg_put (d := 26) (v := .d (.fl (.bool false))) rfl (og rfl (op_pick rfl rfl (by rw [h30]; rfl) rfl)) ?_
        refine rg_put (d := 6) (v := .d (.fl (.bool false))) rfl (og rfl (op_assign rfl rfl rfl)) ?_
        refine rg_done rfl ?_
        show A _ _ _ _ _ _ _
        refine a_seq ?_
        refine a_rseq ?_
        refine rg_put (d := 45) (v := .d (.fl (.bool false))) rfl (og rfl (op_move rfl rfl rfl)) ?_
        refine rg_put (d := 46) (v := .d (.fl (.bool (!false)))) rfl (og rfl (op_un rfl rfl (u_not _) rfl)) ?_
        refine rg_done rfl ?_
        refine a_condK rfl rfl ?_
        refine a_rseq ?_
        refine rg_put (d := 4) (v := .d (.fl (.int .i64 16))) rfl (og rfl (op_assign rfl rfl rfl)) ?_
        refine rg_done rfl ?_
        refine a_ret ?_
        show ∃ ds, ResL _ _ _ ds ∧ RV.of ds = _
        refine ⟨[.fl (.int .i64 16)], (.cons (.tmp rfl (.d _)) .nil), ?_⟩
        have e4 : (p.kind == 4) = false := by rw [beq_eq_false_iff_ne]; have := t_beq h28; omega
        first
          | (have hu : okP p (sF t.syss p.sys) = false := by
              unfold okP; rw [h1f]; simp only [e4, h28, h30, Bool.true_or, Bool.false_or, Bool.or_true, Bool.or_false, Bool.not_true, Bool.not_false, cond_true, cond_false, Bool.true_and, Bool.false_and, Bool.and_true, Bool.and_false, Option.isSome] <;> rfl
             rw [hu]; rfl)
          | (exfalso; omega)
      · skip
        have h32 := t_dec h30
        refine rg_put (d := 19) (v := .pt 101 2) rfl (oy rfl rfl rfl h30 (of_eff (s_field_pt rfl Tryz.underlying28 rfl ti26 rfl rfl rfl) rfl)) ?_
        refine rg_put (d := 20) (v := .d (.sl 3 (List.map eSys t.syss))) rfl (oy rfl rfl rfl h30 (op_load_pt rfl Tryz.underlying26 rfl rfl rfl rfl rfl)) ?_
        refine rg_put (d := 21) (v := .d (.fl (.int .i64 (qh1 : Int)))) rfl (oy rfl rfl rfl h30 (op_move rfl rfl rfl)) ?_
        refine rg_put (d := 22) (v := .el ((eSys (ix t.syss qh1)))) rfl (oy rfl rfl rfl h30 (s_index rfl Tryz.underlying26 ti31 rfl rfl (by omega) (row_at (by omega)) rfl)) ?_
        refine rg_put (d := 23) (v := .el ((List.drop 1 ((eSys (ix t.syss qh1)))))) rfl (oy rfl rfl rfl h30 (of_eff (s_field_el rfl Tryz.underlying31 rfl ti4 rfl rfl rfl) rfl)) ?_
        refine rg_put (d := 24) (v := .d (.fl (.bool ((ix t.syss qh1).closed)))) rfl (oy rfl rfl rfl h30 (op_load_el rfl Tryz.underlying4 rfl rfl rfl rfl)) ?_
        refine rg_put (d := 25) (v := .d (.fl (.bool ((!((ix t.syss qh1).closed)))))) rfl (oy rfl rfl rfl h30 (op_un rfl rfl (u_not _) rfl)) ?_
        refine rg_put (d := 26) (v := .d (.fl (.bool ((!((ix t.syss qh1).closed)))))) rfl (og rfl (op_pick rfl rfl (by rw [h30]; rfl) rfl)) ?_
        refine rg_put (d := 6) (v := .d (.fl (.bool ((!((ix t.syss qh1).closed)))))) rfl (og rfl (op_assign rfl rfl rfl)) ?_
        refine rg_done rfl ?_
        show A _ _ _ _ _ _ _
        refine a_seq ?_
        refine a_rseq ?_
        refine rg_put (d := 45) (v := .d (.fl (.bool ((!((ix t.syss qh1).closed)))))) rfl (og rfl (op_move rfl rfl rfl)) ?_
        refine rg_put (d := 46) (v := .d (.fl (.bool ((!((!((ix t.syss qh1).closed)))))))) rfl (og rfl (op_un rfl rfl (u_not _) rfl)) ?_
        refine rg_done rfl ?_
        refine a_cond rfl (fun h33 => ?_) (fun h33 => ?_)
        · skip
          have h34 := t_not h33
          have h35 := f_not h34
          refine a_rseq ?_
          refine rg_put (d := 4) (v := .d (.fl (.int .i64 16))) rfl (og rfl (op_assign rfl rfl rfl)) ?_
          refine rg_done rfl ?_
          refine a_ret ?_
          show ∃ ds, ResL _ _ _ ds ∧ RV.of ds = _
          refine ⟨[.fl (.int .i64 16)], (.cons (.tmp rfl (.d _)) .nil), ?_⟩
          have e4 : (p.kind == 4) = false := by rw [beq_eq_false_iff_ne]; have := t_beq h28; omega
          first
            | (have hu : okP p (sF t.syss p.sys) = false := by
                unfold okP; rw [h1f]; simp only [e4, h28, h30, h33, h34, h35, Bool.true_or, Bool.false_or, Bool.or_true, Bool.or_false, Bool.not_true, Bool.not_false, cond_true, cond_false, Bool.true_and, Bool.false_and, Bool.and_true, Bool.and_false, Option.isSome] <;> rfl
               rw [hu]; rfl)
            | (exfalso; omega)
        · skip
          have h36 := f_not h33
          have h37 := t_not h36
          refine a_skip ?_
          show A _ _ _ _ _ _ _
          refine a_rseq ?_
          refine rg_put (d := 4) (v := .d (.fl (.int .i64 0))) rfl (og rfl (op_assign rfl rfl rfl)) ?_
          refine rg_done rfl ?_
          refine a_ret ?_
          show ∃ ds, ResL _ _ _ ds ∧ RV.of ds = _
          refine ⟨[.fl (.int .i64 0)], (.cons (.tmp rfl (.d _)) .nil), ?_⟩
          have e4 : (p.kind == 4) = false := by rw [beq_eq_false_iff_ne]; have := t_beq h28; omega
          first
            | (have hu : okP p (sF t.syss p.sys) = true := by
                unfold okP; rw [h1f]; simp only [e4, h28, h30, h33, h36, h37, Bool.true_or, Bool.false_or, Bool.or_true, Bool.or_false, Bool.not_true, Bool.not_false, cond_true, cond_false, Bool.true_and, Bool.false_and, Bool.and_true, Bool.and_false, Option.isSome] <;> rfl
               rw [hu]; rfl)
            | (exfalso; omega)
    · skip
      have h38 := f_beq h28
      refine a_rseq ?_
      refine rg_put (d := 27) (v := .pt 102 1) rfl (og rfl (of_eff (s_field_pt rfl Tryz.underlying42 rfl ti3 rfl rfl rfl) rfl)) ?_
      refine rg_put (d := 28) (v := .d (.fl (.int .i64 p.kind))) rfl (og rfl (op_load_pt rfl Tryz.underlying3 rfl rfl rfl rfl rfl)) ?_
      refine rg_put (d := 29) (v := .d (.fl (.bool (p.kind != 4)))) rfl (og rfl (op_bin rfl rfl rfl (b_neq _ _ _ _) rfl)) ?_
      refine rg_done rfl ?_
      refine a_cond rfl (fun h39 => ?_) (fun h39 => ?_)
      · skip
        have h40 := t_bne h39
        refine a_region ?_
        refine rg_put (d := 30) (v := .d (.fl (.bool ((decide (0 ≤ (qh1 : Int))))))) rfl (og rfl (op_move rfl rfl rfl)) ?_
        refine rg_put (d := 31) (v := .d (.fl (.bool ((decide (0 ≤ (qh1 : Int))))))) rfl (og rfl (op_move rfl rfl rfl)) ?_
        rcases fot ((decide (0 ≤ (qh1 : Int)))) with h41 | h41
        · skip
          have h42 := f_dec h41
          refine rg_put (d := 32) (v := .d (.fl undef)) rfl (on rfl rfl rfl h41) ?_
          refine rg_put (d := 33) (v := .d (.fl undef)) rfl (on rfl rfl rfl h41) ?_
          refine rg_put (d := 34) (v := .d (.fl undef)) rfl (on rfl rfl rfl h41) ?_
          refine rg_put (d := 35) (v := .d (.fl undef)) rfl (on rfl rfl rfl h41) ?_
          refine rg_put (d := 36) (v := .d (.fl undef)) rfl (on rfl rfl rfl h41) ?_
          refine rg_put (d := 37) (v := .d (.fl undef)) rfl (on rfl rfl rfl h41) ?_
          refine rg_put (d := 38) (v := .d (.fl (.bool false))) rfl (og rfl (op_pick rfl rfl (by rw [h41]; rfl) rfl)) ?_
          refine rg_put (d := 6) (v := .d (.fl (.bool false))) rfl (og rfl (op_assign rfl rfl rfl)) ?_
          refine rg_done rfl ?_
          show A _ _ _ _ _ _ _
          refine a_seq ?_
          refine a_rseq ?_
          refine rg_put (d := 45) (v := .d (.fl (.bool false))) rfl (og rfl (op_move rfl rfl rfl)) ?_
          refine rg_put (d := 46) (v := .d (.fl (.bool (!false)))) rfl (og rfl (op_un rfl rfl (u_not _) rfl)) ?_
          refine rg_done rfl ?_
          refine a_condK rfl rfl ?_
          refine a_rseq ?_
          refine rg_put (d := 4) (v := .d (.fl (.int .i64 16))) rfl (og rfl (op_assign rfl rfl rfl)) ?_
          refine rg_done rfl ?_
          refine a_ret ?_
          show ∃ ds, ResL _ _ _ ds ∧ RV.of ds = _
          refine ⟨[.fl (.int .i64 16)], (.cons (.tmp rfl (.d _)) .nil), ?_⟩
          have e4 : (p.kind == 4) = false := by rw [beq_eq_false_iff_ne]; exact t_bne h39
          first
            | (have hu : okP p (sF t.syss p.sys) = false := by
                unfold okP; rw [h1f]; simp only [e4, h28, h39, h41, Bool.true_or, Bool.false_or, Bool.or_true, Bool.or_false, Bool.not_true, Bool.not_false, cond_true, cond_false, Bool.true_and, Bool.false_and, Bool.and_true, Bool.and_false, Option.isSome] <;> rfl
               rw [hu]; rfl)
            | (exfalso; omega)
        · skip
          have h43 := t_dec h41
          refine rg_put (d := 32) (v := .pt 101 2) rfl (oy rfl rfl rfl h41 (of_eff (s_field_pt rfl Tryz.underlying28 rfl ti26 rfl rfl rfl) rfl)) ?_
          refine rg_put (d := 33) (v := .d (.sl 3 (List.map eSys t.syss))) rfl (oy rfl rfl rfl h41 (op_load_pt rfl Tryz.underlying26 rfl rfl rfl rfl rfl)) ?_
          refine rg_put (d := 34) (v := .d (.fl (.int .i64 (qh1 : Int)))) rfl (oy rfl rfl rfl h41 (op_move rfl rfl rfl)) ?_
          refine rg_put (d := 35) (v := .el ((eSys (ix t.syss qh1)))) rfl (oy rfl rfl rfl h41 (s_index rfl Tryz.underlying26 ti31 rfl rfl (by omega) (row_at (by omega)) rfl)) ?_
          refine rg_put (d := 36) (v := .el ((List.drop 1 ((eSys (ix t.syss qh1)))))) rfl (oy rfl rfl rfl h41 (of_eff (s_field_el rfl Tryz.underlying31 rfl ti4 rfl rfl rfl) rfl)) ?_
          refine rg_put (d := 37) (v := .d (.fl (.bool ((ix t.syss qh1).closed)))) rfl (oy rfl rfl rfl h41 (op_load_el rfl Tryz.underlying4 rfl rfl rfl rfl)) ?_
          refine rg_put (d := 38) (v := .d (.fl (.bool ((ix t.syss qh1).closed)))) rfl (og rfl (op_pick rfl rfl (by rw [h41]; rfl) rfl)) ?_
          refine rg_put (d := 6) (v := .d (.fl (.bool ((ix t.syss qh1).closed)))) rfl (og rfl (op_assign rfl rfl rfl)) ?_
          refine rg_done rfl ?_
          show A _ _ _ _ _ _ _
          refine a_seq ?_
          refine a_rseq ?_
          refine rg_put (d := 45) (v := .d (.fl (.bool ((ix t.syss qh1).closed)))) rfl (og rfl (op_move rfl rfl rfl)) ?_
          refine rg_put (d := 46) (v := .d (.fl (.bool ((!((ix t.syss qh1).closed)))))) rfl (og rfl (op_un rfl rfl (u_not _) rfl)) ?_
          refine rg_done rfl ?_
          refine a_cond rfl (fun h44 => ?_) (fun h44 => ?_)
          · skip
            have h45 := t_not h44
            refine a_rseq ?_
            refine rg_put (d := 4) (v := .d (.fl (.int .i64 16))) rfl (og rfl (op_assign rfl rfl rfl)) ?_
            refine rg_done rfl ?_
            refine a_ret ?_
            show ∃ ds, ResL _ _ _ ds ∧ RV.of ds = _
            refine ⟨[.fl (.int .i64 16)], (.cons (.tmp rfl (.d _)) .nil), ?_⟩
            have e4 : (p.kind == 4) = false := by rw [beq_eq_false_iff_ne]; exact t_bne h39
            first
              | (have hu : okP p (sF t.syss p.sys) = false := by
                  unfold okP; rw [h1f]; simp only [e4, h28, h39, h41, h44, h45, Bool.true_or, Bool.false_or, Bool.or_true, Bool.or_false, Bool.not_true, Bool.not_false, cond_true, cond_false, Bool.true_and, Bool.false_and, Bool.and_true, Bool.and_false, Option.isSome] <;> rfl
                 rw [hu]; rfl)
              | (exfalso; omega)
          · skip
            have h46 := f_not h44
            refine a_skip ?_
            show A _ _ _ _ _ _ _
            refine a_rseq ?_
            refine rg_put (d := 4) (v := .d (.fl (.int .i64 0))) rfl (og rfl (op_assign rfl rfl rfl)) ?_
            refine rg_done rfl ?_
            refine a_ret ?_
            show ∃ ds, ResL _ _ _ ds ∧ RV.of ds = _
            refine ⟨[.fl (.int .i64 0)], (.cons (.tmp rfl (.d _)) .nil), ?_⟩
            have e4 : (p.kind == 4) = false := by rw [beq_eq_false_iff_ne]; exact t_bne h39
            first
              | (have hu : okP p (sF t.syss p.sys) = true := by
                  unfold okP; rw [h1f]; simp only [e4, h28, h39, h41, h44, h46, Bool.true_or, Bool.false_or, Bool.or_true, Bool.or_false, Bool.not_true, Bool.not_false, cond_true, cond_false, Bool.true_and, Bool.false_and, Bool.and_true, Bool.and_false, Option.isSome] <;> rfl
                 rw [hu]; rfl)
              | (exfalso; omega)
      · skip
        have h47 := f_bne h39
        refine a_region ?_
        refine rg_put (d := 39) (v := .d (.fl (.bool ((decide (0 ≤ (qh1 : Int))))))) rfl (og rfl (op_move rfl rfl rfl)) ?_
        refine rg_put (d := 40) (v := .d (.fl (.bool ((decide (0 ≤ (qh1 : Int))))))) rfl (og rfl (op_move rfl rfl rfl)) ?_
        rcases fot ((decide (0 ≤ (qh1 : Int)))) with h48 | h48
        · skip
          have h49 := f_dec h48
          refine rg_put (d := 41) (v := .pt 102 2) rfl (oy rfl rfl rfl h48 (of_eff (s_field_pt rfl Tryz.underlying42 rfl ti9 rfl rfl rfl) rfl)) ?_
          refine rg_put (d := 42) (v := .d (.fl (.string p.sys))) rfl (oy rfl rfl rfl h48 (op_load_pt rfl Tryz.underlying9 rfl rfl rfl rfl rfl)) ?_
          refine rg_put (d := 43) (v := .d (.fl (.bool ((sEq p.sys (⟨#[]⟩)))))) rfl (oy rfl rfl rfl h48 (op_bin rfl rfl rfl (b_seq _ _ _) rfl)) ?_
          refine rg_put (d := 44) (v := .d (.fl (.bool ((sEq p.sys (⟨#[]⟩)))))) rfl (og rfl (op_pick rfl rfl (by rw [h48]; rfl) rfl)) ?_
          refine rg_put (d := 6) (v := .d (.fl (.bool ((sEq p.sys (⟨#[]⟩)))))) rfl (og rfl (op_assign rfl rfl rfl)) ?_
          refine rg_done rfl ?_
          show A _ _ _ _ _ _ _
          refine a_seq ?_
          refine a_rseq ?_
          refine rg_put (d := 45) (v := .d (.fl (.bool ((sEq p.sys (⟨#[]⟩)))))) rfl (og rfl (op_move rfl rfl rfl)) ?_
          refine rg_put (d := 46) (v := .d (.fl (.bool ((!((sEq p.sys (⟨#[]⟩)))))))) rfl (og rfl (op_un rfl rfl (u_not _) rfl)) ?_
          refine rg_done rfl ?_
          refine a_cond rfl (fun h50 => ?_) (fun h50 => ?_)
          · skip
            have h51 := t_not h50
            refine a_rseq ?_
            refine rg_put (d := 4) (v := .d (.fl (.int .i64 16))) rfl (og rfl (op_assign rfl rfl rfl)) ?_
            refine rg_done rfl ?_
            refine a_ret ?_
            show ∃ ds, ResL _ _ _ ds ∧ RV.of ds = _
            refine ⟨[.fl (.int .i64 16)], (.cons (.tmp rfl (.d _)) .nil), ?_⟩
            have e4 : (p.kind == 4) = true := by rw [beq_iff_eq]; have := f_bne h39; omega
            first
              | (have hu : okP p (sF t.syss p.sys) = false := by
                  unfold okP; rw [h1f]; simp only [e4, h28, h39, h48, h50, h51, Bool.true_or, Bool.false_or, Bool.or_true, Bool.or_false, Bool.not_true, Bool.not_false, cond_true, cond_false, Bool.true_and, Bool.false_and, Bool.and_true, Bool.and_false, Option.isSome] <;> rfl
                 rw [hu]; rfl)
              | (exfalso; omega)
          · skip
            have h52 := f_not h50
            refine a_skip ?_
            show A _ _ _ _ _ _ _
            refine a_rseq ?_
            refine rg_put (d := 4) (v := .d (.fl (.int .i64 0))) rfl (og rfl (op_assign rfl rfl rfl)) ?_
            refine rg_done rfl ?_
            refine a_ret ?_
            show ∃ ds, ResL _ _ _ ds ∧ RV.of ds = _
            refine ⟨[.fl (.int .i64 0)], (.cons (.tmp rfl (.d _)) .nil), ?_⟩
            have e4 : (p.kind == 4) = true := by rw [beq_iff_eq]; have := f_bne h39; omega
            first
              | (have hu : okP p (sF t.syss p.sys) = true := by
                  unfold okP; rw [h1f]; simp only [e4, h28, h39, h48, h50, h52, Bool.true_or, Bool.false_or, Bool.or_true, Bool.or_false, Bool.not_true, Bool.not_false, cond_true, cond_false, Bool.true_and, Bool.false_and, Bool.and_true, Bool.and_false, Option.isSome] <;> rfl
                 rw [hu]; rfl)
              | (exfalso; omega)
        · skip
          have h53 := t_dec h48
          refine rg_put (d := 41) (v := .d (.fl undef)) rfl (on rfl rfl rfl h48) ?_
          refine rg_put (d := 42) (v := .d (.fl undef)) rfl (on rfl rfl rfl h48) ?_
          refine rg_put (d := 43) (v := .d (.fl undef)) rfl (on rfl rfl rfl h48) ?_
          refine rg_put (d := 44) (v := .d (.fl (.bool true))) rfl (og rfl (op_pick rfl rfl (by rw [h48]; rfl) rfl)) ?_
          refine rg_put (d := 6) (v := .d (.fl (.bool true))) rfl (og rfl (op_assign rfl rfl rfl)) ?_
          refine rg_done rfl ?_
          show A _ _ _ _ _ _ _
          refine a_seq ?_
          refine a_rseq ?_
          refine rg_put (d := 45) (v := .d (.fl (.bool true))) rfl (og rfl (op_move rfl rfl rfl)) ?_
          refine rg_put (d := 46) (v := .d (.fl (.bool (!true)))) rfl (og rfl (op_un rfl rfl (u_not _) rfl)) ?_
          refine rg_done rfl ?_
          refine a_condF rfl rfl ?_
          refine a_skip ?_
          show A _ _ _ _ _ _ _
          refine a_rseq ?_
          refine rg_put (d := 4) (v := .d (.fl (.int .i64 0))) rfl (og rfl (op_assign rfl rfl rfl)) ?_
          refine rg_done rfl ?_
          refine a_ret ?_
          show ∃ ds, ResL _ _ _ ds ∧ RV.of ds = _
          refine ⟨[.fl (.int .i64 0)], (.cons (.tmp rfl (.d _)) .nil), ?_⟩
          have e4 : (p.kind == 4) = true := by rw [beq_iff_eq]; have := f_bne h39; omega
          first
            | (have hu : okP p (sF t.syss p.sys) = true := by
                unfold okP; rw [h1f]; simp only [e4, h28, h39, h48, Bool.true_or, Bool.false_or, Bool.or_true, Bool.or_false, Bool.not_true, Bool.not_false, cond_true, cond_false, Bool.true_and, Bool.false_and, Bool.and_true, Bool.and_false, Option.isSome] <;> rfl
               rw [hu]; rfl)
            | (exfalso; omega)
set_option maxHeartbeats 4000000 in
set_option maxRecDepth 100000 in
theorem tck_c (t : Tpg) : Ctr Tryz.prog 24 [.ag (eTpg t)] (.d (.fl (.int .i64 (tck t)))) := by
  refine ctr (n := 89) (rs := #[.tmp 2]) (L := [(0, .d (.ag (eTpg t)))]) Tryz.func24 rfl rfl rfl rfl rfl (fun w0 U0 => ?_)
  refine a_rseq ?_
  refine rg_nam (d := 1) (v := .pt 101 0) (m := 101) (nw := [(101, .bx 28 (eTpg t))]) rfl (og rfl (of_eff (op_box 101 rfl rfl rfl rfl) rfl)) rfl ?_
  refine rg_put (d := 2) (v := .d (.fl (.int .i64 0))) rfl (og rfl (op_assign rfl rfl rfl)) ?_
  refine rg_done rfl ?_
  refine a_seq ?_
  refine a_rseq ?_
  refine rg_put (d := 13) (v := .pt 101 0) rfl (og rfl (of_eff (s_field_pt rfl Tryz.underlying28 rfl ti25 rfl rfl rfl) rfl)) ?_
  refine rg_put (d := 14) (v := .d (.ag (eNwk t.net))) rfl (og rfl (of_eff (s_load_pts rfl Tryz.underlying25 rfl ti25 rfl rfl rfl rfl) rfl)) ?_
  refine rg_put (d := 15) (v := .d (.fl (.int .i64 (gck t.net)))) rfl (og rfl (op_call rfl Tryz.func41 nm41 rfl (.cons rfl (.d _) .nil) (gck_c t.net) rfl)) ?_
  refine rg_put (d := 3) (v := .d (.fl (.int .i64 (gck t.net)))) rfl (og rfl (op_assign rfl rfl rfl)) ?_
  refine rg_done rfl ?_
  refine a_rseq ?_
  refine rg_put (d := 16) (v := .d (.fl (.int .i64 (gck t.net)))) rfl (og rfl (op_move rfl rfl rfl)) ?_
  refine rg_put (d := 17) (v := .d (.fl (.bool (((gck t.net) != 0))))) rfl (og rfl (op_bin rfl rfl rfl (b_neq _ _ _ _) rfl)) ?_
  refine rg_done rfl ?_
  refine a_cond rfl (fun h1 => ?_) (fun h1 => ?_)
  · skip
    have h2 := t_bne h1
    refine a_rseq ?_
    refine rg_put (d := 18) (v := .d (.fl (.int .i64 (gck t.net)))) rfl (og rfl (op_move rfl rfl rfl)) ?_
    refine rg_put (d := 2) (v := .d (.fl (.int .i64 (gck t.net)))) rfl (og rfl (op_assign rfl rfl rfl)) ?_
    refine rg_done rfl ?_
    refine a_ret ?_
    show ∃ ds, ResL _ _ _ ds ∧ RV.of ds = _
    refine ⟨[.fl (.int .i64 (gck t.net))], (.cons (.tmp rfl (.d _)) .nil), ?_⟩
    rw [tck_g h1]; rfl
  · skip
    have h3 := f_bne h1
    refine a_skip ?_
    show A _ _ _ _ _ _ _
    refine a_seq ?_
    refine a_rseq ?_
    refine rg_put (d := 19) (v := .pt 101 2) rfl (og rfl (of_eff (s_field_pt rfl Tryz.underlying28 rfl ti26 rfl rfl rfl) rfl)) ?_
    refine rg_put (d := 20) (v := .d (.sl 3 (List.map eSys t.syss))) rfl (og rfl (op_load_pt rfl Tryz.underlying26 rfl rfl rfl rfl rfl)) ?_
    refine rg_put (d := 21) (v := .d (.fl (.int .i64 (t.syss.length : Int)))) rfl (og rfl (s_len rfl Tryz.underlying26 rfl rfl)) ?_
    refine rg_put (d := 22) (v := .d (.fl (.bool ((decide (64 < (t.syss.length : Int))))))) rfl (og rfl (op_bin rfl rfl rfl (b_gtr _ _ _ _) rfl)) ?_
    refine rg_done rfl ?_
    refine a_cond rfl (fun h4 => ?_) (fun h4 => ?_)
    · skip
      have h5 := t_dec h4
      refine a_rseq ?_
      refine rg_put (d := 2) (v := .d (.fl (.int .i64 3))) rfl (og rfl (op_assign rfl rfl rfl)) ?_
      refine rg_done rfl ?_
      refine a_ret ?_
      show ∃ ds, ResL _ _ _ ds ∧ RV.of ds = _
      refine ⟨[.fl (.int .i64 3)], (.cons (.tmp rfl (.d _)) .nil), ?_⟩
      rw [tck_l h1 h4]; rfl
    · skip
      have h6 := f_dec h4
      refine a_skip ?_
      show A _ _ _ _ _ _ _
      refine a_rseq ?_
      refine rg_nam (d := 23) (v := .ow 102) (m := 102) (nw := [(102, .mp [])]) rfl (og rfl (op_makeMap 102 rfl rfl)) rfl ?_
      refine rg_put (d := 4) (v := .ow 102) rfl (og rfl (op_assign rfl rfl rfl)) ?_
      refine rg_done rfl ?_
      refine a_seq ?_
      refine a_rseq ?_
      refine rg_put (d := 24) (v := .pt 101 2) rfl (og rfl (of_eff (s_field_pt rfl Tryz.underlying28 rfl ti26 rfl rfl rfl) rfl)) ?_
      refine rg_put (d := 25) (v := .d (.sl 3 (List.map eSys t.syss))) rfl (og rfl (op_load_pt rfl Tryz.underlying26 rfl rfl rfl rfl rfl)) ?_
      refine rg_put (d := 26) (v := .d (.fl (.int .i64 (t.syss.length : Int)))) rfl (og rfl (s_len rfl Tryz.underlying26 rfl rfl)) ?_
      refine rg_put (d := 27) (v := .d (.fl (.int .i64 0))) rfl (og rfl (op_move rfl rfl rfl)) ?_
      refine rg_done rfl ?_
      refine a_block ?_
      refine a_loop (ι := Nat) (fun k => SS [(0, .d (.ag (eTpg t))), (1, .pt 101 0), (3, .d (.fl (.int .i64 (gck t.net)))), (4, .ow 102), (17, .d (.fl (.bool (((gck t.net) != 0))))), (22, .d (.fl (.bool ((decide (64 < (t.syss.length : Int))))))), (25, .d (.sl 3 (List.map eSys t.syss))), (26, .d (.fl (.int .i64 (t.syss.length : Int)))), (27, .d (.fl (.int .i64 (k : Int))))] [(101, .bx 28 (eTpg t)), (102, .mp ((setS (t.syss.take k))))]) (fun k => k ≤ t.syss.length ∧ syE t.syss = fe (sy1 t.syss) k (t.syss.length - k)) (fun k => t.syss.length - k) 0 (⟨by omega, rfl⟩) (imp_forget rfl ⟨rfl, rfl, rfl, rfl, rfl, rfl, rfl, rfl, (by first | rfl | exact ci (by omega) | exact ci (by simp) | exact cd (by simp) | simp), trivial⟩ ⟨rfl, rfl, trivial⟩) (fun k hok => ?_)
      obtain ⟨hk, hc⟩ := hok
      refine a_rseq ?_
      refine rg_put (d := 28) (v := .d (.fl (.bool ((decide ((k : Int) < (t.syss.length : Int))))))) rfl (og rfl (op_bin rfl rfl rfl (b_lss _ _ _ _) rfl)) ?_
      refine rg_done rfl ?_
      refine a_seq ?_
      refine a_cond rfl (fun h7 => ?_) (fun h7 => ?_)
      · skip
        have h8 := t_dec h7
        refine a_skip ?_
        show A _ _ _ _ _ _ _
        refine a_seq ?_
        refine a_block ?_
        refine a_rseq ?_
        refine rg_put (d := 29) (v := .el ((eSys (ix t.syss k)))) rfl (og rfl (s_index rfl Tryz.underlying26 ti31 rfl rfl (by omega) (row_at (by omega)) rfl)) ?_
        refine rg_put (d := 30) (v := .d (.ag (eSys (ix t.syss k)))) rfl (og rfl (of_eff (s_load_els rfl Tryz.underlying31 rfl ti31 rfl rfl rfl) rfl)) ?_
        refine rg_nam (d := 6) (v := .pt 103 0) (m := 103) (nw := [(103, .bx 31 ([.fl (.string (⟨#[]⟩)), .fl (.bool false), .fl (.int .i64 0)]))]) rfl (og rfl (of_eff (s_alloc 103 rfl ti31 (by kernel_rfl) rfl) rfl)) rfl ?_
        refine rg_sto (nw := [(103, .bx 31 ((eSys (ix t.syss k))))]) rfl (og rfl (of_eff (s_store rfl rfl ti31 rfl rfl rfl rfl rfl rfl) rfl)) ?_
        refine rg_done rfl ?_
        refine a_rseq ?_
        refine rg_put (d := 32) (v := .ow 102) rfl (og rfl (op_move rfl rfl rfl)) ?_
        refine rg_put (d := 33) (v := .pt 103 0) rfl (og rfl (of_eff (s_field_pt rfl Tryz.underlying31 rfl ti9 rfl rfl rfl) rfl)) ?_
        refine rg_put (d := 34) (v := .d (.fl (.string ((ix t.syss k).name)))) rfl (og rfl (op_load_pt rfl Tryz.underlying9 rfl rfl rfl rfl rfl)) ?_
        rcases h9 : sF (t.syss.take k) ((ix t.syss k).name) with _ | qh9
        · skip
          refine rg_put (d := 35) (v := .tu [.ag (eSys ((Sys.mk (⟨#[]⟩) false 0))), .fl (.bool false)]) rfl (og rfl (op_lookup rfl Tryz.underlying80 Tryz.underlying9 rfl ti31 rfl rfl (.ow rfl) rfl (r := none) ((mfind_mapS Sys.name (fun x => .ag (eSys x)) _ _).trans (congrArg (fun o => some (Option.map (fun x => DV.ag (eSys x)) o)) h9)) rfl)) ?_
          refine rg_put (d := 31) (v := .tu [.ag (eSys ((Sys.mk (⟨#[]⟩) false 0))), .fl (.bool false)]) rfl (og rfl (op_move rfl rfl rfl)) ?_
          refine rg_put (d := 36) (v := .d (.ag (eSys ((Sys.mk (⟨#[]⟩) false 0))))) rfl (og rfl (op_extract rfl rfl rfl rfl)) ?_
          refine rg_put (d := 37) (v := .d (.fl (.bool false))) rfl (og rfl (op_extract rfl rfl rfl rfl)) ?_
          refine rg_nam (d := 7) (v := .pt 104 0) (m := 104) (nw := [(104, .bx 31 ([.fl (.string (⟨#[]⟩)), .fl (.bool false), .fl (.int .i64 0)]))]) rfl (og rfl (of_eff (s_alloc 104 rfl ti31 (by kernel_rfl) rfl) rfl)) rfl ?_
          refine rg_sto (nw := [(104, .bx 31 ((eSys ((Sys.mk (⟨#[]⟩) false 0)))))]) rfl (og rfl (of_eff (s_store rfl rfl ti31 rfl rfl rfl rfl rfl rfl) rfl)) ?_
          refine rg_put (d := 8) (v := .d (.fl (.bool false))) rfl (og rfl (op_assign rfl rfl rfl)) ?_
          refine rg_done rfl ?_
          refine a_seq ?_
          refine a_block ?_
          refine a_rseq ?_
          refine rg_put (d := 39) (v := .pt 103 0) rfl (og rfl (of_eff (s_field_pt rfl Tryz.underlying31 rfl ti9 rfl rfl rfl) rfl)) ?_
          refine rg_put (d := 40) (v := .d (.fl (.string ((ix t.syss k).name)))) rfl (og rfl (op_load_pt rfl Tryz.underlying9 rfl rfl rfl rfl rfl)) ?_
          refine rg_put (d := 41) (v := .d (.fl (.bool ((Nm.nmB ((ix t.syss k).name)))))) rfl (og rfl (op_call rfl Tryz.func42 nm42 rfl (.cons rfl (.d _) .nil) (nmC ((ix t.syss k).name)) rfl)) ?_
          refine rg_put (d := 42) (v := .d (.fl (.bool ((!((Nm.nmB ((ix t.syss k).name)))))))) rfl (og rfl (op_un rfl rfl (u_not _) rfl)) ?_
          refine rg_put (d := 38) (v := .d (.fl (.bool ((!((Nm.nmB ((ix t.syss k).name)))))))) rfl (og rfl (op_assign rfl rfl rfl)) ?_
          refine rg_done rfl ?_
          refine a_cond rfl (fun h10 => ?_) (fun h10 => ?_)
          · skip
            have h11 := t_not h10
            refine a_rseq ?_
            refine rg_put (d := 2) (v := .d (.fl (.int .i64 6))) rfl (og rfl (op_assign rfl rfl rfl)) ?_
            refine rg_done rfl ?_
            refine a_ret ?_
            show ∃ ds, ResL _ _ _ ds ∧ RV.of ds = _
            refine ⟨[.fl (.int .i64 6)], (.cons (.tmp rfl (.d _)) .nil), ?_⟩
            have hsn : (sF (t.syss.take k) (ix t.syss k).name).isSome = false := by rw [h9]; rfl
            have hb : sy1 t.syss k = 6 := by unfold sy1; simp only [h1, h4, h7, h10, h11, hsn, Bool.true_or, Bool.false_or, Bool.or_true, Bool.or_false, Bool.not_true, Bool.not_false, cond_true, cond_false, Bool.true_and, Bool.false_and, Bool.and_true, Bool.and_false] <;> rfl
            rw [tck_s h1 h4 (show syE t.syss = 6 from fe_yes (by omega) hc hb (by decide)) (by decide)]; rfl
          · skip
            have h12 := f_not h10
            refine a_rseq ?_
            refine rg_put (d := 44) (v := .d (.fl (.bool false))) rfl (og rfl (op_move rfl rfl rfl)) ?_
            refine rg_put (d := 43) (v := .d (.fl (.bool false))) rfl (og rfl (op_assign rfl rfl rfl)) ?_
            refine rg_done rfl ?_
            refine a_condF rfl rfl ?_
            refine a_rseq ?_
            refine rg_put (d := 46) (v := .pt 103 2) rfl (og rfl (of_eff (s_field_pt rfl Tryz.underlying31 rfl ti3 rfl rfl rfl) rfl)) ?_
            refine rg_put (d := 47) (v := .d (.fl (.int .i64 ((ix t.syss k).most)))) rfl (og rfl (op_load_pt rfl Tryz.underlying3 rfl rfl rfl rfl rfl)) ?_
            refine rg_put (d := 48) (v := .d (.fl (.bool ((decide ((ix t.syss k).most < 0)))))) rfl (og rfl (op_bin rfl rfl rfl (b_lss _ _ _ _) rfl)) ?_
            refine rg_put (d := 49) (v := .d (.fl (.bool ((decide ((ix t.syss k).most < 0)))))) rfl (og rfl (op_move rfl rfl rfl)) ?_
            rcases fot ((decide ((ix t.syss k).most < 0))) with h13 | h13
            · skip
              have h14 := f_dec h13
              refine rg_put (d := 50) (v := .pt 103 2) rfl (oy rfl rfl rfl h13 (of_eff (s_field_pt rfl Tryz.underlying31 rfl ti3 rfl rfl rfl) rfl)) ?_
              refine rg_put (d := 51) (v := .d (.fl (.int .i64 ((ix t.syss k).most)))) rfl (oy rfl rfl rfl h13 (op_load_pt rfl Tryz.underlying3 rfl rfl rfl rfl rfl)) ?_
              refine rg_put (d := 52) (v := .d (.fl (.bool ((decide (2147483648 < (ix t.syss k).most)))))) rfl (oy rfl rfl rfl h13 (op_bin rfl rfl rfl (b_gtr _ _ _ _) rfl)) ?_
              refine rg_put (d := 53) (v := .d (.fl (.bool ((decide (2147483648 < (ix t.syss k).most)))))) rfl (og rfl (op_pick rfl rfl (by rw [h13]; rfl) rfl)) ?_
              refine rg_put (d := 54) (v := .d (.fl (.bool ((decide (2147483648 < (ix t.syss k).most)))))) rfl (og rfl (op_move rfl rfl rfl)) ?_
              rcases fot ((decide (2147483648 < (ix t.syss k).most))) with h15 | h15
              · skip
                have h16 := f_dec h15
                refine rg_put (d := 55) (v := .pt 103 1) rfl (oy rfl rfl rfl h15 (of_eff (s_field_pt rfl Tryz.underlying31 rfl ti4 rfl rfl rfl) rfl)) ?_
                refine rg_put (d := 56) (v := .d (.fl (.bool ((ix t.syss k).closed)))) rfl (oy rfl rfl rfl h15 (op_load_pt rfl Tryz.underlying4 rfl rfl rfl rfl rfl)) ?_
                refine rg_put (d := 57) (v := .d (.fl (.bool ((ix t.syss k).closed)))) rfl (oy rfl rfl rfl h15 (op_move rfl rfl rfl)) ?_
                rcases fot ((ix t.syss k).closed) with h17 | h17
                · skip
                  refine rg_put (d := 58) (v := .d (.fl undef)) rfl (on rfl rfl rfl h17) ?_
                  refine rg_put (d := 59) (v := .d (.fl undef)) rfl (on rfl rfl rfl h17) ?_
                  refine rg_put (d := 60) (v := .d (.fl undef)) rfl (on rfl rfl rfl h17) ?_
                  refine rg_put (d := 61) (v := .d (.fl (.bool false))) rfl (oy rfl rfl rfl h15 (op_pick rfl rfl (by rw [h17]; rfl) rfl)) ?_
                  refine rg_put (d := 62) (v := .d (.fl (.bool false))) rfl (og rfl (op_pick rfl rfl (by rw [h15]; rfl) rfl)) ?_
                  refine rg_put (d := 45) (v := .d (.fl (.bool false))) rfl (og rfl (op_assign rfl rfl rfl)) ?_
                  refine rg_done rfl ?_
                  refine a_condF rfl rfl ?_
                  refine a_skip ?_
                  show A _ _ _ _ _ _ _
                  refine a_region ?_
                  refine rg_put (d := 63) (v := .ow 102) rfl (og rfl (op_move rfl rfl rfl)) ?_
                  refine rg_put (d := 64) (v := .pt 103 0) rfl (og rfl (of_eff (s_field_pt rfl Tryz.underlying31 rfl ti9 rfl rfl rfl) rfl)) ?_
                  refine rg_put (d := 65) (v := .d (.fl (.string ((ix t.syss k).name)))) rfl (og rfl (op_load_pt rfl Tryz.underlying9 rfl rfl rfl rfl rfl)) ?_
                  refine rg_put (d := 66) (v := .d (.ag (eSys (ix t.syss k)))) rfl (og rfl (of_eff (s_load_pts rfl Tryz.underlying31 rfl ti31 rfl rfl rfl rfl) rfl)) ?_
                  refine rg_sto (nw := [(102, .mp ((setS (t.syss.take k)) ++ [((.string ((ix t.syss k).name)), .ag (eSys (ix t.syss k)))]))]) rfl (og rfl (op_mapPush rfl rfl Tryz.underlying80 Tryz.underlying9 rfl rfl rfl rfl ((mfind_mapS Sys.name (fun x => .ag (eSys x)) _ _).trans (congrArg (fun o => some (Option.map (fun x => DV.ag (eSys x)) o)) h9)) rfl)) ?_
                  refine rg_done rfl ?_
                  show A _ _ _ _ _ _ _
                  refine a_region ?_
                  refine rg_put (d := 67) (v := .d (.fl (.int .i64 (((k : Int) + 1))))) rfl (og rfl (op_bin rfl rfl rfl (fun x y w => b_add64 _ _ _ x y w (by omega)) rfl)) ?_
                  refine rg_put (d := 27) (v := .d (.fl (.int .i64 (((k : Int) + 1))))) rfl (og rfl (op_move rfl rfl rfl)) ?_
                  refine rg_done rfl ?_
                  have hsn : (sF (t.syss.take k) (ix t.syss k).name).isSome = false := by rw [h9]; rfl
                  have hb : sy1 t.syss k = 0 := by unfold sy1; simp only [h1, h4, h7, h10, h12, h13, h15, h17, hsn, Bool.true_or, Bool.false_or, Bool.or_true, Bool.or_false, Bool.not_true, Bool.not_false, cond_true, cond_false, Bool.true_and, Bool.false_and, Bool.and_true, Bool.and_false] <;> rfl
                  show ∃ i, _ ∧ _ ∧ Imp _ _ _ _ _
                  refine ⟨k + 1, ⟨by omega, fe_no (by omega) hc hb⟩, by omega, imp_forget rfl ⟨rfl, rfl, rfl, rfl, rfl, rfl, rfl, rfl, (by first | rfl | exact ci (by omega) | exact ci (by simp) | exact cd (by simp) | simp), trivial⟩ ⟨rfl, (congrArg (fun z => Ob.mp z) (setS_take (by omega))), trivial⟩⟩
                · skip
                  refine rg_put (d := 58) (v := .pt 103 2) rfl (oy rfl rfl rfl h17 (of_eff (s_field_pt rfl Tryz.underlying31 rfl ti3 rfl rfl rfl) rfl)) ?_
                  refine rg_put (d := 59) (v := .d (.fl (.int .i64 ((ix t.syss k).most)))) rfl (oy rfl rfl rfl h17 (op_load_pt rfl Tryz.underlying3 rfl rfl rfl rfl rfl)) ?_
                  refine rg_put (d := 60) (v := .d (.fl (.bool (((ix t.syss k).most == 0))))) rfl (oy rfl rfl rfl h17 (op_bin rfl rfl rfl (b_eql _ _ _ _) rfl)) ?_
                  refine rg_put (d := 61) (v := .d (.fl (.bool (((ix t.syss k).most == 0))))) rfl (oy rfl rfl rfl h15 (op_pick rfl rfl (by rw [h17]; rfl) rfl)) ?_
                  refine rg_put (d := 62) (v := .d (.fl (.bool (((ix t.syss k).most == 0))))) rfl (og rfl (op_pick rfl rfl (by rw [h15]; rfl) rfl)) ?_
                  refine rg_put (d := 45) (v := .d (.fl (.bool (((ix t.syss k).most == 0))))) rfl (og rfl (op_assign rfl rfl rfl)) ?_
                  refine rg_done rfl ?_
                  refine a_cond rfl (fun h18 => ?_) (fun h18 => ?_)
                  · skip
                    have h19 := t_beq h18
                    refine a_rseq ?_
                    refine rg_put (d := 2) (v := .d (.fl (.int .i64 12))) rfl (og rfl (op_assign rfl rfl rfl)) ?_
                    refine rg_done rfl ?_
                    refine a_ret ?_
                    show ∃ ds, ResL _ _ _ ds ∧ RV.of ds = _
                    refine ⟨[.fl (.int .i64 12)], (.cons (.tmp rfl (.d _)) .nil), ?_⟩
                    have hsn : (sF (t.syss.take k) (ix t.syss k).name).isSome = false := by rw [h9]; rfl
                    have hb : sy1 t.syss k = 12 := by unfold sy1; simp only [h1, h4, h7, h10, h12, h13, h15, h17, h18, hsn, Bool.true_or, Bool.false_or, Bool.or_true, Bool.or_false, Bool.not_true, Bool.not_false, cond_true, cond_false, Bool.true_and, Bool.false_and, Bool.and_true, Bool.and_false] <;> rfl
                    rw [tck_s h1 h4 (show syE t.syss = 12 from fe_yes (by omega) hc hb (by decide)) (by decide)]; rfl
                  · skip
                    have h20 := f_beq h18
                    refine a_skip ?_
                    show A _ _ _ _ _ _ _
                    refine a_region ?_
                    refine rg_put (d := 63) (v := .ow 102) rfl (og rfl (op_move rfl rfl rfl)) ?_
                    refine rg_put (d := 64) (v := .pt 103 0) rfl (og rfl (of_eff (s_field_pt rfl Tryz.underlying31 rfl ti9 rfl rfl rfl) rfl)) ?_
                    refine rg_put (d := 65) (v := .d (.fl (.string ((ix t.syss k).name)))) rfl (og rfl (op_load_pt rfl Tryz.underlying9 rfl rfl rfl rfl rfl)) ?_
                    refine rg_put (d := 66) (v := .d (.ag (eSys (ix t.syss k)))) rfl (og rfl (of_eff (s_load_pts rfl Tryz.underlying31 rfl ti31 rfl rfl rfl rfl) rfl)) ?_
                    refine rg_sto (nw := [(102, .mp ((setS (t.syss.take k)) ++ [((.string ((ix t.syss k).name)), .ag (eSys (ix t.syss k)))]))]) rfl (og rfl (op_mapPush rfl rfl Tryz.underlying80 Tryz.underlying9 rfl rfl rfl rfl ((mfind_mapS Sys.name (fun x => .ag (eSys x)) _ _).trans (congrArg (fun o => some (Option.map (fun x => DV.ag (eSys x)) o)) h9)) rfl)) ?_
                    refine rg_done rfl ?_
                    show A _ _ _ _ _ _ _
                    refine a_region ?_
                    refine rg_put (d := 67) (v := .d (.fl (.int .i64 (((k : Int) + 1))))) rfl (og rfl (op_bin rfl rfl rfl (fun x y w => b_add64 _ _ _ x y w (by omega)) rfl)) ?_
                    refine rg_put (d := 27) (v := .d (.fl (.int .i64 (((k : Int) + 1))))) rfl (og rfl (op_move rfl rfl rfl)) ?_
                    refine rg_done rfl ?_
                    have hsn : (sF (t.syss.take k) (ix t.syss k).name).isSome = false := by rw [h9]; rfl
                    have hb : sy1 t.syss k = 0 := by unfold sy1; simp only [h1, h4, h7, h10, h12, h13, h15, h17, h18, hsn, Bool.true_or, Bool.false_or, Bool.or_true, Bool.or_false, Bool.not_true, Bool.not_false, cond_true, cond_false, Bool.true_and, Bool.false_and, Bool.and_true, Bool.and_false] <;> rfl
                    show ∃ i, _ ∧ _ ∧ Imp _ _ _ _ _
                    refine ⟨k + 1, ⟨by omega, fe_no (by omega) hc hb⟩, by omega, imp_forget rfl ⟨rfl, rfl, rfl, rfl, rfl, rfl, rfl, rfl, (by first | rfl | exact ci (by omega) | exact ci (by simp) | exact cd (by simp) | simp), trivial⟩ ⟨rfl, (congrArg (fun z => Ob.mp z) (setS_take (by omega))), trivial⟩⟩
              · skip
                have h21 := t_dec h15
                refine rg_put (d := 55) (v := .d (.fl undef)) rfl (on rfl rfl rfl h15) ?_
                refine rg_put (d := 56) (v := .d (.fl undef)) rfl (on rfl rfl rfl h15) ?_
                refine rg_put (d := 57) (v := .d (.fl undef)) rfl (on rfl rfl rfl h15) ?_
                refine rg_put (d := 58) (v := .d (.fl undef)) rfl (ou rfl rfl rfl) ?_
                refine rg_put (d := 59) (v := .d (.fl undef)) rfl (ou rfl rfl rfl) ?_
                refine rg_put (d := 60) (v := .d (.fl undef)) rfl (ou rfl rfl rfl) ?_
                refine rg_put (d := 61) (v := .d (.fl undef)) rfl (on rfl rfl rfl h15) ?_
                refine rg_put (d := 62) (v := .d (.fl (.bool true))) rfl (og rfl (op_pick rfl rfl (by rw [h15]; rfl) rfl)) ?_
                refine rg_put (d := 45) (v := .d (.fl (.bool true))) rfl (og rfl (op_assign rfl rfl rfl)) ?_
                refine rg_done rfl ?_
                refine a_condK rfl rfl ?_
                refine a_rseq ?_
                refine rg_put (d := 2) (v := .d (.fl (.int .i64 12))) rfl (og rfl (op_assign rfl rfl rfl)) ?_
                refine rg_done rfl ?_
                refine a_ret ?_
                show ∃ ds, ResL _ _ _ ds ∧ RV.of ds = _
                refine ⟨[.fl (.int .i64 12)], (.cons (.tmp rfl (.d _)) .nil), ?_⟩
                have hsn : (sF (t.syss.take k) (ix t.syss k).name).isSome = false := by rw [h9]; rfl
                have hb : sy1 t.syss k = 12 := by unfold sy1; simp only [h1, h4, h7, h10, h12, h13, h15, hsn, Bool.true_or, Bool.false_or, Bool.or_true, Bool.or_false, Bool.not_true, Bool.not_false, cond_true, cond_false, Bool.true_and, Bool.false_and, Bool.and_true, Bool.and_false] <;> rfl
                rw [tck_s h1 h4 (show syE t.syss = 12 from fe_yes (by omega) hc hb (by decide)) (by decide)]; rfl
            · skip
              have h22 := t_dec h13
              refine rg_put (d := 50) (v := .d (.fl undef)) rfl (on rfl rfl rfl h13) ?_
              refine rg_put (d := 51) (v := .d (.fl undef)) rfl (on rfl rfl rfl h13) ?_
              refine rg_put (d := 52) (v := .d (.fl undef)) rfl (on rfl rfl rfl h13) ?_
              refine rg_put (d := 53) (v := .d (.fl (.bool true))) rfl (og rfl (op_pick rfl rfl (by rw [h13]; rfl) rfl)) ?_
              refine rg_put (d := 54) (v := .d (.fl (.bool true))) rfl (og rfl (op_move rfl rfl rfl)) ?_
              refine rg_put (d := 55) (v := .d (.fl undef)) rfl (on rfl rfl rfl rfl) ?_
              refine rg_put (d := 56) (v := .d (.fl undef)) rfl (on rfl rfl rfl rfl) ?_
              refine rg_put (d := 57) (v := .d (.fl undef)) rfl (on rfl rfl rfl rfl) ?_
              refine rg_put (d := 58) (v := .d (.fl undef)) rfl (ou rfl rfl rfl) ?_
              refine rg_put (d := 59) (v := .d (.fl undef)) rfl (ou rfl rfl rfl) ?_
              refine rg_put (d := 60) (v := .d (.fl undef)) rfl (ou rfl rfl rfl) ?_
              refine rg_put (d := 61) (v := .d (.fl undef)) rfl (on rfl rfl rfl rfl) ?_
              refine rg_put (d := 62) (v := .d (.fl (.bool true))) rfl (og rfl (op_pick rfl rfl rfl rfl)) ?_
              refine rg_put (d := 45) (v := .d (.fl (.bool true))) rfl (og rfl (op_assign rfl rfl rfl)) ?_
              refine rg_done rfl ?_
              refine a_condK rfl rfl ?_
              refine a_rseq ?_
              refine rg_put (d := 2) (v := .d (.fl (.int .i64 12))) rfl (og rfl (op_assign rfl rfl rfl)) ?_
              refine rg_done rfl ?_
              refine a_ret ?_
              show ∃ ds, ResL _ _ _ ds ∧ RV.of ds = _
              refine ⟨[.fl (.int .i64 12)], (.cons (.tmp rfl (.d _)) .nil), ?_⟩
              have hsn : (sF (t.syss.take k) (ix t.syss k).name).isSome = false := by rw [h9]; rfl
              have hb : sy1 t.syss k = 12 := by unfold sy1; simp only [h1, h4, h7, h10, h12, h13, hsn, Bool.true_or, Bool.false_or, Bool.or_true, Bool.or_false, Bool.not_true, Bool.not_false, cond_true, cond_false, Bool.true_and, Bool.false_and, Bool.and_true, Bool.and_false] <;> rfl
              rw [tck_s h1 h4 (show syE t.syss = 12 from fe_yes (by omega) hc hb (by decide)) (by decide)]; rfl
        · skip
          refine rg_put (d := 35) (v := .tu [.ag (eSys qh9), .fl (.bool true)]) rfl (og rfl (op_lookup rfl Tryz.underlying80 Tryz.underlying9 rfl ti31 rfl rfl (.ow rfl) rfl (r := (some (.ag (eSys qh9)))) ((mfind_mapS Sys.name (fun x => .ag (eSys x)) _ _).trans (congrArg (fun o => some (Option.map (fun x => DV.ag (eSys x)) o)) h9)) rfl)) ?_
          refine rg_put (d := 31) (v := .tu [.ag (eSys qh9), .fl (.bool true)]) rfl (og rfl (op_move rfl rfl rfl)) ?_
          refine rg_put (d := 36) (v := .d (.ag (eSys qh9))) rfl (og rfl (op_extract rfl rfl rfl rfl)) ?_
          refine rg_put (d := 37) (v := .d (.fl (.bool true))) rfl (og rfl (op_extract rfl rfl rfl rfl)) ?_
          refine rg_nam (d := 7) (v := .pt 105 0) (m := 105) (nw := [(105, .bx 31 ([.fl (.string (⟨#[]⟩)), .fl (.bool false), .fl (.int .i64 0)]))]) rfl (og rfl (of_eff (s_alloc 105 rfl ti31 (by kernel_rfl) rfl) rfl)) rfl ?_
          refine rg_sto (nw := [(105, .bx 31 (eSys qh9))]) rfl (og rfl (of_eff (s_store rfl rfl ti31 rfl rfl rfl rfl rfl rfl) rfl)) ?_
          refine rg_put (d := 8) (v := .d (.fl (.bool true))) rfl (og rfl (op_assign rfl rfl rfl)) ?_
          refine rg_done rfl ?_
          refine a_seq ?_
          refine a_block ?_
          refine a_rseq ?_
          refine rg_put (d := 39) (v := .pt 103 0) rfl (og rfl (of_eff (s_field_pt rfl Tryz.underlying31 rfl ti9 rfl rfl rfl) rfl)) ?_
          refine rg_put (d := 40) (v := .d (.fl (.string ((ix t.syss k).name)))) rfl (og rfl (op_load_pt rfl Tryz.underlying9 rfl rfl rfl rfl rfl)) ?_
          refine rg_put (d := 41) (v := .d (.fl (.bool ((Nm.nmB ((ix t.syss k).name)))))) rfl (og rfl (op_call rfl Tryz.func42 nm42 rfl (.cons rfl (.d _) .nil) (nmC ((ix t.syss k).name)) rfl)) ?_
          refine rg_put (d := 42) (v := .d (.fl (.bool ((!((Nm.nmB ((ix t.syss k).name)))))))) rfl (og rfl (op_un rfl rfl (u_not _) rfl)) ?_
          refine rg_put (d := 38) (v := .d (.fl (.bool ((!((Nm.nmB ((ix t.syss k).name)))))))) rfl (og rfl (op_assign rfl rfl rfl)) ?_
          refine rg_done rfl ?_
          refine a_cond rfl (fun h23 => ?_) (fun h23 => ?_)
          · skip
            have h24 := t_not h23
            refine a_rseq ?_
            refine rg_put (d := 2) (v := .d (.fl (.int .i64 6))) rfl (og rfl (op_assign rfl rfl rfl)) ?_
            refine rg_done rfl ?_
            refine a_ret ?_
            show ∃ ds, ResL _ _ _ ds ∧ RV.of ds = _
            refine ⟨[.fl (.int .i64 6)], (.cons (.tmp rfl (.d _)) .nil), ?_⟩
            have hsn : (sF (t.syss.take k) (ix t.syss k).name).isSome = true := by rw [h9]; rfl
            have hb : sy1 t.syss k = 6 := by unfold sy1; simp only [h1, h4, h7, h23, h24, hsn, Bool.true_or, Bool.false_or, Bool.or_true, Bool.or_false, Bool.not_true, Bool.not_false, cond_true, cond_false, Bool.true_and, Bool.false_and, Bool.and_true, Bool.and_false] <;> rfl
            rw [tck_s h1 h4 (show syE t.syss = 6 from fe_yes (by omega) hc hb (by decide)) (by decide)]; rfl
          · skip
            have h25 := f_not h23
            refine a_rseq ?_
            refine rg_put (d := 44) (v := .d (.fl (.bool true))) rfl (og rfl (op_move rfl rfl rfl)) ?_
            refine rg_put (d := 43) (v := .d (.fl (.bool true))) rfl (og rfl (op_assign rfl rfl rfl)) ?_
            refine rg_done rfl ?_
            refine a_condK rfl rfl ?_
            refine a_rseq ?_
            refine rg_put (d := 2) (v := .d (.fl (.int .i64 9))) rfl (og rfl (op_assign rfl rfl rfl)) ?_
            refine rg_done rfl ?_
            refine a_ret ?_
            show ∃ ds, ResL _ _ _ ds ∧ RV.of ds = _
            refine ⟨[.fl (.int .i64 9)], (.cons (.tmp rfl (.d _)) .nil), ?_⟩
            have hsn : (sF (t.syss.take k) (ix t.syss k).name).isSome = true := by rw [h9]; rfl
            have hb : sy1 t.syss k = 9 := by unfold sy1; simp only [h1, h4, h7, h23, h25, hsn, Bool.true_or, Bool.false_or, Bool.or_true, Bool.or_false, Bool.not_true, Bool.not_false, cond_true, cond_false, Bool.true_and, Bool.false_and, Bool.and_true, Bool.and_false] <;> rfl
            rw [tck_s h1 h4 (show syE t.syss = 9 from fe_yes (by omega) hc hb (by decide)) (by decide)]; rfl
      · skip
        have h26 := f_dec h7
        refine a_exit ?_
        show A _ _ _ _ _ _ _
        refine a_seq ?_
        refine a_rseq ?_
        have hs0 : syE t.syss = 0 := by rw [fe_end (by omega)] at hc; exact hc
        have hkd : ∀ j, j < t.net.pts.length → 1 ≤ (ix t.net.pts j).kind ∧ (ix t.net.pts j).kind ≤ 4 := fun j h => pt_kind ((gck_0 (f_bne h1)).2.2.1 j h)
        have hp64 : t.net.pts.length ≤ 64 := (gck_0 (f_bne h1)).1
        rw [show (setS (t.syss.take k)) = (setS t.syss) from (by rw [List.take_of_length_le (by omega)])]
        refine rg_put (d := 68) (v := .pt 101 0) rfl (og rfl (of_eff (s_field_pt rfl Tryz.underlying28 rfl ti25 rfl rfl rfl) rfl)) ?_
        refine rg_put (d := 69) (v := .pt 101 0) rfl (og rfl (of_eff (s_field_pt rfl Tryz.underlying25 rfl ti22 rfl rfl rfl) rfl)) ?_
        refine rg_put (d := 70) (v := .d (.sl 3 (List.map ePnt t.net.pts))) rfl (og rfl (op_load_pt rfl Tryz.underlying22 rfl rfl rfl rfl rfl)) ?_
        refine rg_put (d := 71) (v := .d (.fl (.int .i64 (t.net.pts.length : Int)))) rfl (og rfl (s_len rfl Tryz.underlying22 rfl rfl)) ?_
        refine rg_put (d := 72) (v := .d (.fl (.int .i64 0))) rfl (og rfl (op_move rfl rfl rfl)) ?_
        refine rg_done rfl ?_
        refine a_block ?_
        refine a_loop (ι := Nat) (fun j => SS [(0, .d (.ag (eTpg t))), (1, .pt 101 0), (3, .d (.fl (.int .i64 (gck t.net)))), (4, .ow 102), (17, .d (.fl (.bool (((gck t.net) != 0))))), (22, .d (.fl (.bool ((decide (64 < (t.syss.length : Int))))))), (25, .d (.sl 3 (List.map eSys t.syss))), (26, .d (.fl (.int .i64 (t.syss.length : Int)))), (27, .d (.fl (.int .i64 (k : Int)))), (28, .d (.fl (.bool ((decide ((k : Int) < (t.syss.length : Int))))))), (70, .d (.sl 3 (List.map ePnt t.net.pts))), (71, .d (.fl (.int .i64 (t.net.pts.length : Int)))), (72, .d (.fl (.int .i64 (j : Int))))] [(101, .bx 28 (eTpg t)), (102, .mp (setS t.syss))]) (fun j => j ≤ t.net.pts.length ∧ peE t = fe (pe1 t) j (t.net.pts.length - j)) (fun j => t.net.pts.length - j) 0 (⟨by omega, rfl⟩) (imp_forget rfl ⟨rfl, rfl, rfl, rfl, rfl, rfl, rfl, rfl, rfl, rfl, rfl, rfl, (by first | rfl | exact ci (by omega) | exact ci (by simp) | exact cd (by simp) | simp), trivial⟩ ⟨rfl, rfl, trivial⟩) (fun j hok => ?_)
        obtain ⟨hk, hc⟩ := hok
        refine a_rseq ?_
        refine rg_put (d := 73) (v := .d (.fl (.bool ((decide ((j : Int) < (t.net.pts.length : Int))))))) rfl (og rfl (op_bin rfl rfl rfl (b_lss _ _ _ _) rfl)) ?_
        refine rg_done rfl ?_
        refine a_seq ?_
        refine a_cond rfl (fun h27 => ?_) (fun h27 => ?_)
        · skip
          have h28 := t_dec h27
          refine a_skip ?_
          show A _ _ _ _ _ _ _
          refine a_seq ?_
          refine a_block ?_
          refine a_rseq ?_
          refine rg_put (d := 74) (v := .el ((ePnt (ix t.net.pts j)))) rfl (og rfl (s_index rfl Tryz.underlying22 ti42 rfl rfl (by omega) (row_at (by omega)) rfl)) ?_
          refine rg_put (d := 75) (v := .d (.ag (ePnt (ix t.net.pts j)))) rfl (og rfl (of_eff (s_load_els rfl Tryz.underlying42 rfl ti42 rfl rfl rfl) rfl)) ?_
          refine rg_nam (d := 10) (v := .pt 106 0) (m := 106) (nw := [(106, .bx 42 ([.fl (.string (⟨#[]⟩)), .fl (.int .i64 0), .fl (.string (⟨#[]⟩))]))]) rfl (og rfl (of_eff (s_alloc 106 rfl ti42 (by kernel_rfl) rfl) rfl)) rfl ?_
          refine rg_sto (nw := [(106, .bx 42 ((ePnt (ix t.net.pts j))))]) rfl (og rfl (of_eff (s_store rfl rfl ti42 rfl rfl rfl rfl rfl rfl) rfl)) ?_
          refine rg_done rfl ?_
          refine a_rseq ?_
          refine rg_put (d := 77) (v := .ow 102) rfl (og rfl (op_move rfl rfl rfl)) ?_
          refine rg_put (d := 78) (v := .pt 106 2) rfl (og rfl (of_eff (s_field_pt rfl Tryz.underlying42 rfl ti9 rfl rfl rfl) rfl)) ?_
          refine rg_put (d := 79) (v := .d (.fl (.string ((ix t.net.pts j).sys)))) rfl (og rfl (op_load_pt rfl Tryz.underlying9 rfl rfl rfl rfl rfl)) ?_
          rcases h29 : sF t.syss ((ix t.net.pts j).sys) with _ | qh29
          · skip
            refine rg_put (d := 80) (v := .tu [.ag (eSys ((Sys.mk (⟨#[]⟩) false 0))), .fl (.bool false)]) rfl (og rfl (op_lookup rfl Tryz.underlying80 Tryz.underlying9 rfl ti31 rfl rfl (.ow rfl) rfl (r := none) ((mfind_mapS Sys.name (fun x => .ag (eSys x)) _ _).trans (congrArg (fun o => some (Option.map (fun x => DV.ag (eSys x)) o)) h29)) rfl)) ?_
            refine rg_put (d := 76) (v := .tu [.ag (eSys ((Sys.mk (⟨#[]⟩) false 0))), .fl (.bool false)]) rfl (og rfl (op_move rfl rfl rfl)) ?_
            refine rg_put (d := 81) (v := .d (.ag (eSys ((Sys.mk (⟨#[]⟩) false 0))))) rfl (og rfl (op_extract rfl rfl rfl rfl)) ?_
            refine rg_put (d := 82) (v := .d (.fl (.bool false))) rfl (og rfl (op_extract rfl rfl rfl rfl)) ?_
            refine rg_nam (d := 11) (v := .pt 107 0) (m := 107) (nw := [(107, .bx 31 ([.fl (.string (⟨#[]⟩)), .fl (.bool false), .fl (.int .i64 0)]))]) rfl (og rfl (of_eff (s_alloc 107 rfl ti31 (by kernel_rfl) rfl) rfl)) rfl ?_
            refine rg_sto (nw := [(107, .bx 31 ((eSys ((Sys.mk (⟨#[]⟩) false 0)))))]) rfl (og rfl (of_eff (s_store rfl rfl ti31 rfl rfl rfl rfl rfl rfl) rfl)) ?_
            refine rg_put (d := 12) (v := .d (.fl (.bool false))) rfl (og rfl (op_assign rfl rfl rfl)) ?_
            refine rg_done rfl ?_
            refine a_rseq ?_
            refine rg_put (d := 83) (v := .d (.ag (ePnt (ix t.net.pts j)))) rfl (og rfl (of_eff (s_load_pts rfl Tryz.underlying42 rfl ti42 rfl rfl rfl rfl) rfl)) ?_
            refine rg_put (d := 84) (v := .d (.ag (eSys (((Sys.mk (⟨#[]⟩) false 0)))))) rfl (og rfl (of_eff (s_load_pts rfl Tryz.underlying31 rfl ti31 rfl rfl rfl rfl) rfl)) ?_
            refine rg_put (d := 85) (v := .d (.fl (.bool false))) rfl (og rfl (op_move rfl rfl rfl)) ?_
            refine rg_put (d := 86) (v := .d (.fl (.bool ((bl (ix t.net.pts j) (((Sys.mk (⟨#[]⟩) false 0))) false))))) rfl (og rfl (op_call rfl Tryz.func43 nm43 rfl (.cons rfl (.d _) (.cons rfl (.d _) (.cons rfl (.d _) .nil))) (bl_c (ix t.net.pts j) (((Sys.mk (⟨#[]⟩) false 0))) false) rfl)) ?_
            refine rg_put (d := 87) (v := .d (.fl (.bool ((!((bl (ix t.net.pts j) (((Sys.mk (⟨#[]⟩) false 0))) false))))))) rfl (og rfl (op_un rfl rfl (u_not _) rfl)) ?_
            refine rg_done rfl ?_
            refine a_cond rfl (fun h30 => ?_) (fun h30 => ?_)
            · skip
              have h31 := t_not h30
              refine a_rseq ?_
              refine rg_put (d := 2) (v := .d (.fl (.int .i64 16))) rfl (og rfl (op_assign rfl rfl rfl)) ?_
              refine rg_done rfl ?_
              refine a_ret ?_
              show ∃ ds, ResL _ _ _ ds ∧ RV.of ds = _
              refine ⟨[.fl (.int .i64 16)], (.cons (.tmp rfl (.d _)) .nil), ?_⟩
              have hob : okP (ix t.net.pts j) (sF t.syss (ix t.net.pts j).sys) = false := by rw [h29, ← bl_none (hkd j (by omega))]; exact h31
              have hb : pe1 t j = 16 := by unfold pe1; rw [hob]; rfl
              rw [tck_p h1 h4 hs0, show peE t = 16 from fe_yes (by omega) hc hb (by decide)]; rfl
            · skip
              have h32 := f_not h30
              refine a_skip ?_
              show A _ _ _ _ _ _ _
              refine a_region ?_
              refine rg_put (d := 88) (v := .d (.fl (.int .i64 (((j : Int) + 1))))) rfl (og rfl (op_bin rfl rfl rfl (fun x y w => b_add64 _ _ _ x y w (by omega)) rfl)) ?_
              refine rg_put (d := 72) (v := .d (.fl (.int .i64 (((j : Int) + 1))))) rfl (og rfl (op_move rfl rfl rfl)) ?_
              refine rg_done rfl ?_
              have hob : okP (ix t.net.pts j) (sF t.syss (ix t.net.pts j).sys) = true := by rw [h29, ← bl_none (hkd j (by omega))]; exact h32
              have hb : pe1 t j = 0 := by unfold pe1; rw [hob]; rfl
              show ∃ i, _ ∧ _ ∧ Imp _ _ _ _ _
              refine ⟨j + 1, ⟨by omega, fe_no (by omega) hc hb⟩, by omega, imp_forget rfl ⟨rfl, rfl, rfl, rfl, rfl, rfl, rfl, rfl, rfl, rfl, rfl, rfl, (by first | rfl | exact ci (by omega) | exact ci (by simp) | exact cd (by simp) | simp), trivial⟩ ⟨rfl, rfl, trivial⟩⟩
          · skip
            refine rg_put (d := 80) (v := .tu [.ag (eSys qh29), .fl (.bool true)]) rfl (og rfl (op_lookup rfl Tryz.underlying80 Tryz.underlying9 rfl ti31 rfl rfl (.ow rfl) rfl (r := (some (.ag (eSys qh29)))) ((mfind_mapS Sys.name (fun x => .ag (eSys x)) _ _).trans (congrArg (fun o => some (Option.map (fun x => DV.ag (eSys x)) o)) h29)) rfl)) ?_
            refine rg_put (d := 76) (v := .tu [.ag (eSys qh29), .fl (.bool true)]) rfl (og rfl (op_move rfl rfl rfl)) ?_
            refine rg_put (d := 81) (v := .d (.ag (eSys qh29))) rfl (og rfl (op_extract rfl rfl rfl rfl)) ?_
            refine rg_put (d := 82) (v := .d (.fl (.bool true))) rfl (og rfl (op_extract rfl rfl rfl rfl)) ?_
            refine rg_nam (d := 11) (v := .pt 108 0) (m := 108) (nw := [(108, .bx 31 ([.fl (.string (⟨#[]⟩)), .fl (.bool false), .fl (.int .i64 0)]))]) rfl (og rfl (of_eff (s_alloc 108 rfl ti31 (by kernel_rfl) rfl) rfl)) rfl ?_
            refine rg_sto (nw := [(108, .bx 31 (eSys qh29))]) rfl (og rfl (of_eff (s_store rfl rfl ti31 rfl rfl rfl rfl rfl rfl) rfl)) ?_
            refine rg_put (d := 12) (v := .d (.fl (.bool true))) rfl (og rfl (op_assign rfl rfl rfl)) ?_
            refine rg_done rfl ?_
            refine a_rseq ?_
            refine rg_put (d := 83) (v := .d (.ag (ePnt (ix t.net.pts j)))) rfl (og rfl (of_eff (s_load_pts rfl Tryz.underlying42 rfl ti42 rfl rfl rfl rfl) rfl)) ?_
            refine rg_put (d := 84) (v := .d (.ag (eSys qh29))) rfl (og rfl (of_eff (s_load_pts rfl Tryz.underlying31 rfl ti31 rfl rfl rfl rfl) rfl)) ?_
            refine rg_put (d := 85) (v := .d (.fl (.bool true))) rfl (og rfl (op_move rfl rfl rfl)) ?_
            refine rg_put (d := 86) (v := .d (.fl (.bool ((bl (ix t.net.pts j) qh29 true))))) rfl (og rfl (op_call rfl Tryz.func43 nm43 rfl (.cons rfl (.d _) (.cons rfl (.d _) (.cons rfl (.d _) .nil))) (bl_c (ix t.net.pts j) qh29 true) rfl)) ?_
            refine rg_put (d := 87) (v := .d (.fl (.bool ((!((bl (ix t.net.pts j) qh29 true))))))) rfl (og rfl (op_un rfl rfl (u_not _) rfl)) ?_
            refine rg_done rfl ?_
            refine a_cond rfl (fun h33 => ?_) (fun h33 => ?_)
            · skip
              have h34 := t_not h33
              refine a_rseq ?_
              refine rg_put (d := 2) (v := .d (.fl (.int .i64 16))) rfl (og rfl (op_assign rfl rfl rfl)) ?_
              refine rg_done rfl ?_
              refine a_ret ?_
              show ∃ ds, ResL _ _ _ ds ∧ RV.of ds = _
              refine ⟨[.fl (.int .i64 16)], (.cons (.tmp rfl (.d _)) .nil), ?_⟩
              have hob : okP (ix t.net.pts j) (sF t.syss (ix t.net.pts j).sys) = false := by rw [h29, ← bl_some (hkd j (by omega))]; exact h34
              have hb : pe1 t j = 16 := by unfold pe1; rw [hob]; rfl
              rw [tck_p h1 h4 hs0, show peE t = 16 from fe_yes (by omega) hc hb (by decide)]; rfl
            · skip
              have h35 := f_not h33
              refine a_skip ?_
              show A _ _ _ _ _ _ _
              refine a_region ?_
              refine rg_put (d := 88) (v := .d (.fl (.int .i64 (((j : Int) + 1))))) rfl (og rfl (op_bin rfl rfl rfl (fun x y w => b_add64 _ _ _ x y w (by omega)) rfl)) ?_
              refine rg_put (d := 72) (v := .d (.fl (.int .i64 (((j : Int) + 1))))) rfl (og rfl (op_move rfl rfl rfl)) ?_
              refine rg_done rfl ?_
              have hob : okP (ix t.net.pts j) (sF t.syss (ix t.net.pts j).sys) = true := by rw [h29, ← bl_some (hkd j (by omega))]; exact h35
              have hb : pe1 t j = 0 := by unfold pe1; rw [hob]; rfl
              show ∃ i, _ ∧ _ ∧ Imp _ _ _ _ _
              refine ⟨j + 1, ⟨by omega, fe_no (by omega) hc hb⟩, by omega, imp_forget rfl ⟨rfl, rfl, rfl, rfl, rfl, rfl, rfl, rfl, rfl, rfl, rfl, rfl, (by first | rfl | exact ci (by omega) | exact ci (by simp) | exact cd (by simp) | simp), trivial⟩ ⟨rfl, rfl, trivial⟩⟩
        · skip
          have h36 := f_dec h27
          refine a_exit ?_
          show A _ _ _ _ _ _ _
          refine a_rseq ?_
          refine rg_put (d := 2) (v := .d (.fl (.int .i64 0))) rfl (og rfl (op_assign rfl rfl rfl)) ?_
          refine rg_done rfl ?_
          refine a_ret ?_
          show ∃ ds, ResL _ _ _ ds ∧ RV.of ds = _
          refine ⟨[.fl (.int .i64 0)], (.cons (.tmp rfl (.d _)) .nil), ?_⟩
          rw [tck_p h1 h4 hs0, show peE t = 0 from by rw [fe_end (by omega)] at hc; exact hc]; rfl
set_option maxHeartbeats 4000000 in
set_option maxRecDepth 100000 in
theorem tck_r (t : Tpg) : Ctr Tryz.prog 31 [.ag (eTpg t)] (.d (.fl (.int .i64 (tck t)))) := by
  refine ctr (n := 78) (rs := #[.tmp 2]) (L := [(0, .d (.ag (eTpg t)))]) Tryz.func31 rfl rfl rfl rfl rfl (fun w0 U0 => ?_)
  refine a_rseq ?_
  refine rg_nam (d := 1) (v := .pt 101 0) (m := 101) (nw := [(101, .bx 28 (eTpg t))]) rfl (og rfl (of_eff (op_box 101 rfl rfl rfl rfl) rfl)) rfl ?_
  refine rg_put (d := 2) (v := .d (.fl (.int .i64 0))) rfl (og rfl (op_assign rfl rfl rfl)) ?_
  refine rg_done rfl ?_
  refine a_seq ?_
  refine a_rseq ?_
  refine rg_put (d := 8) (v := .pt 101 0) rfl (og rfl (of_eff (s_field_pt rfl Tryz.underlying28 rfl ti25 rfl rfl rfl) rfl)) ?_
  refine rg_put (d := 9) (v := .d (.ag (eNwk t.net))) rfl (og rfl (of_eff (s_load_pts rfl Tryz.underlying25 rfl ti25 rfl rfl rfl rfl) rfl)) ?_
  refine rg_put (d := 10) (v := .d (.fl (.int .i64 (gck t.net)))) rfl (og rfl (op_call rfl Tryz.func45 nm45 rfl (.cons rfl (.d _) .nil) (gck_r t.net) rfl)) ?_
  refine rg_put (d := 3) (v := .d (.fl (.int .i64 (gck t.net)))) rfl (og rfl (op_assign rfl rfl rfl)) ?_
  refine rg_done rfl ?_
  refine a_rseq ?_
  refine rg_put (d := 11) (v := .d (.fl (.int .i64 (gck t.net)))) rfl (og rfl (op_move rfl rfl rfl)) ?_
  refine rg_put (d := 12) (v := .d (.fl (.bool (((gck t.net) != 0))))) rfl (og rfl (op_bin rfl rfl rfl (b_neq _ _ _ _) rfl)) ?_
  refine rg_done rfl ?_
  refine a_cond rfl (fun h1 => ?_) (fun h1 => ?_)
  · skip
    have h2 := t_bne h1
    refine a_rseq ?_
    refine rg_put (d := 13) (v := .d (.fl (.int .i64 (gck t.net)))) rfl (og rfl (op_move rfl rfl rfl)) ?_
    refine rg_put (d := 2) (v := .d (.fl (.int .i64 (gck t.net)))) rfl (og rfl (op_assign rfl rfl rfl)) ?_
    refine rg_done rfl ?_
    refine a_ret ?_
    show ∃ ds, ResL _ _ _ ds ∧ RV.of ds = _
    refine ⟨[.fl (.int .i64 (gck t.net))], (.cons (.tmp rfl (.d _)) .nil), ?_⟩
    rw [tck_g h1]; rfl
  · skip
    have h3 := f_bne h1
    refine a_skip ?_
    show A _ _ _ _ _ _ _
    refine a_seq ?_
    refine a_rseq ?_
    refine rg_put (d := 14) (v := .pt 101 2) rfl (og rfl (of_eff (s_field_pt rfl Tryz.underlying28 rfl ti26 rfl rfl rfl) rfl)) ?_
    refine rg_put (d := 15) (v := .d (.sl 3 (List.map eSys t.syss))) rfl (og rfl (op_load_pt rfl Tryz.underlying26 rfl rfl rfl rfl rfl)) ?_
    refine rg_put (d := 16) (v := .d (.fl (.int .i64 (t.syss.length : Int)))) rfl (og rfl (s_len rfl Tryz.underlying26 rfl rfl)) ?_
    refine rg_put (d := 17) (v := .d (.fl (.bool ((decide (64 < (t.syss.length : Int))))))) rfl (og rfl (op_bin rfl rfl rfl (b_gtr _ _ _ _) rfl)) ?_
    refine rg_done rfl ?_
    refine a_cond rfl (fun h4 => ?_) (fun h4 => ?_)
    · skip
      have h5 := t_dec h4
      refine a_rseq ?_
      refine rg_put (d := 2) (v := .d (.fl (.int .i64 3))) rfl (og rfl (op_assign rfl rfl rfl)) ?_
      refine rg_done rfl ?_
      refine a_ret ?_
      show ∃ ds, ResL _ _ _ ds ∧ RV.of ds = _
      refine ⟨[.fl (.int .i64 3)], (.cons (.tmp rfl (.d _)) .nil), ?_⟩
      rw [tck_l h1 h4]; rfl
    · skip
      have h6 := f_dec h4
      refine a_skip ?_
      show A _ _ _ _ _ _ _
      refine a_seq ?_
      refine a_rseq ?_
      refine rg_put (d := 4) (v := .d (.fl (.int .i64 0))) rfl (og rfl (op_assign rfl rfl rfl)) ?_
      refine rg_done rfl ?_
      refine a_block ?_
      refine a_loop (ι := Nat) (fun k => SS [(0, .d (.ag (eTpg t))), (1, .pt 101 0), (3, .d (.fl (.int .i64 (gck t.net)))), (12, .d (.fl (.bool (((gck t.net) != 0))))), (17, .d (.fl (.bool ((decide (64 < (t.syss.length : Int))))))), (4, .d (.fl (.int .i64 (k : Int))))] [(101, .bx 28 (eTpg t))]) (fun k => k ≤ t.syss.length ∧ syE t.syss = fe (sy1 t.syss) k (t.syss.length - k)) (fun k => t.syss.length - k) 0 (⟨by omega, rfl⟩) (imp_forget rfl ⟨rfl, rfl, rfl, rfl, rfl, (by first | rfl | exact ci (by omega) | exact ci (by simp) | exact cd (by simp) | simp), trivial⟩ ⟨rfl, trivial⟩) (fun k hok => ?_)
      obtain ⟨hk, hc⟩ := hok
      refine a_seq ?_
      refine a_rseq ?_
      refine rg_put (d := 18) (v := .d (.fl (.int .i64 (k : Int)))) rfl (og rfl (op_move rfl rfl rfl)) ?_
      refine rg_put (d := 19) (v := .pt 101 2) rfl (og rfl (of_eff (s_field_pt rfl Tryz.underlying28 rfl ti26 rfl rfl rfl) rfl)) ?_
      refine rg_put (d := 20) (v := .d (.sl 3 (List.map eSys t.syss))) rfl (og rfl (op_load_pt rfl Tryz.underlying26 rfl rfl rfl rfl rfl)) ?_
      refine rg_put (d := 21) (v := .d (.fl (.int .i64 (t.syss.length : Int)))) rfl (og rfl (s_len rfl Tryz.underlying26 rfl rfl)) ?_
      refine rg_put (d := 22) (v := .d (.fl (.bool ((decide ((k : Int) < (t.syss.length : Int))))))) rfl (og rfl (op_bin rfl rfl rfl (b_lss _ _ _ _) rfl)) ?_
      refine rg_done rfl ?_
      refine a_cond rfl (fun h7 => ?_) (fun h7 => ?_)
      · skip
        have h8 := t_dec h7
        refine a_skip ?_
        show A _ _ _ _ _ _ _
        refine a_seq ?_
        refine a_block ?_
        refine a_rseq ?_
        refine rg_put (d := 25) (v := .pt 101 2) rfl (og rfl (of_eff (s_field_pt rfl Tryz.underlying28 rfl ti26 rfl rfl rfl) rfl)) ?_
        refine rg_put (d := 26) (v := .d (.sl 3 (List.map eSys t.syss))) rfl (og rfl (op_load_pt rfl Tryz.underlying26 rfl rfl rfl rfl rfl)) ?_
        refine rg_put (d := 27) (v := .d (.fl (.int .i64 (k : Int)))) rfl (og rfl (op_move rfl rfl rfl)) ?_
        refine rg_put (d := 28) (v := .el ((eSys (ix t.syss k)))) rfl (og rfl (s_index rfl Tryz.underlying26 ti31 rfl rfl (by omega) (row_at (by omega)) rfl)) ?_
        refine rg_put (d := 29) (v := .d (.ag (eSys (ix t.syss k)))) rfl (og rfl (of_eff (s_load_els rfl Tryz.underlying31 rfl ti31 rfl rfl rfl) rfl)) ?_
        refine rg_nam (d := 5) (v := .pt 102 0) (m := 102) (nw := [(102, .bx 31 ([.fl (.string (⟨#[]⟩)), .fl (.bool false), .fl (.int .i64 0)]))]) rfl (og rfl (of_eff (s_alloc 102 rfl ti31 (by kernel_rfl) rfl) rfl)) rfl ?_
        refine rg_sto (nw := [(102, .bx 31 ((eSys (ix t.syss k))))]) rfl (og rfl (of_eff (s_store rfl rfl ti31 rfl rfl rfl rfl rfl rfl) rfl)) ?_
        refine rg_done rfl ?_
        refine a_seq ?_
        refine a_rseq ?_
        refine rg_put (d := 30) (v := .pt 102 0) rfl (og rfl (of_eff (s_field_pt rfl Tryz.underlying31 rfl ti9 rfl rfl rfl) rfl)) ?_
        refine rg_put (d := 31) (v := .d (.fl (.string ((ix t.syss k).name)))) rfl (og rfl (op_load_pt rfl Tryz.underlying9 rfl rfl rfl rfl rfl)) ?_
        refine rg_put (d := 32) (v := .d (.fl (.bool ((Nm.nmB ((ix t.syss k).name)))))) rfl (og rfl (op_call rfl Tryz.func46 nm46 rfl (.cons rfl (.d _) .nil) (nmR ((ix t.syss k).name)) rfl)) ?_
        refine rg_put (d := 33) (v := .d (.fl (.bool ((!((Nm.nmB ((ix t.syss k).name)))))))) rfl (og rfl (op_un rfl rfl (u_not _) rfl)) ?_
        refine rg_done rfl ?_
        refine a_cond rfl (fun h9 => ?_) (fun h9 => ?_)
        · skip
          have h10 := t_not h9
          refine a_rseq ?_
          refine rg_put (d := 2) (v := .d (.fl (.int .i64 6))) rfl (og rfl (op_assign rfl rfl rfl)) ?_
          refine rg_done rfl ?_
          refine a_ret ?_
          show ∃ ds, ResL _ _ _ ds ∧ RV.of ds = _
          refine ⟨[.fl (.int .i64 6)], (.cons (.tmp rfl (.d _)) .nil), ?_⟩
          have hb : sy1 t.syss k = 6 := by unfold sy1; simp only [h1, h4, h7, h9, h10, Bool.true_or, Bool.false_or, Bool.or_true, Bool.or_false, Bool.not_true, Bool.not_false, cond_true, cond_false, Bool.true_and, Bool.false_and, Bool.and_true, Bool.and_false] <;> rfl
          rw [tck_s h1 h4 (show syE t.syss = 6 from fe_yes (by omega) hc hb (by decide)) (by decide)]; rfl
        · skip
          have h11 := f_not h9
          refine a_skip ?_
          show A _ _ _ _ _ _ _
          refine a_seq ?_
          refine a_dseq (by kernel_rfl) ?_
          refine dr_put (d := 34) (v := .pt 101 2) rfl (og rfl (of_eff (s_field_pt rfl Tryz.underlying28 rfl ti26 rfl rfl rfl) rfl)) ?_
          refine dr_put (d := 35) (v := .d (.sl 3 (List.map eSys t.syss))) rfl (og rfl (op_load_pt rfl Tryz.underlying26 rfl rfl rfl rfl rfl)) ?_
          refine dr_put (d := 36) (v := .d (.fl (.int .i64 (k : Int)))) rfl (og rfl (op_move rfl rfl rfl)) ?_
          refine dr_put (d := 37) (v := .d (.sl 3 (List.map eSys (((t.syss.drop 0).take (k - 0)))))) rfl (og rfl (s_slice rfl Tryz.underlying26 ti31 rfl (.no _) (.so (n := k) _ rfl (by omega)) (by omega) (by omega) rfl)) ?_
          refine dr_put (d := 38) (v := .pt 102 0) rfl (og rfl (of_eff (s_field_pt rfl Tryz.underlying31 rfl ti9 rfl rfl rfl) rfl)) ?_
          refine dr_put (d := 39) (v := .d (.fl (.string ((ix t.syss k).name)))) rfl (og rfl (op_load_pt rfl Tryz.underlying9 rfl rfl rfl rfl rfl)) ?_
          refine dr_put (d := 40) (v := .d (.fl (.int .i64 ((fIx (((t.syss.drop 0).take (k - 0))) ((ix t.syss k).name)))))) rfl (og rfl (op_call rfl Tryz.func18 nm18 rfl (.cons rfl (.d _) (.cons rfl (.d _) .nil)) (find_c (((t.syss.drop 0).take (k - 0))) ((ix t.syss k).name) _ (by first | omega | (simp only [List.length_take, List.length_drop]; omega)) rfl) rfl)) ?_
          refine dr_put (d := 41) (v := .d (.fl (.bool ((decide (0 ≤ (fIx (((t.syss.drop 0).take (k - 0))) ((ix t.syss k).name)))))))) rfl (og rfl (op_bin rfl rfl rfl (b_geq _ _ _ _) rfl)) ?_
          refine dr_done rfl (by kernel_rfl) (by kernel_rfl) ?_
          refine a_cond rfl (fun h12 => ?_) (fun h12 => ?_)
          · skip
            have h13 := t_dec h12
            refine a_rseq ?_
            refine rg_put (d := 2) (v := .d (.fl (.int .i64 9))) rfl (og rfl (op_assign rfl rfl rfl)) ?_
            refine rg_done rfl ?_
            refine a_ret ?_
            show ∃ ds, ResL _ _ _ ds ∧ RV.of ds = _
            refine ⟨[.fl (.int .i64 9)], (.cons (.tmp rfl (.d _)) .nil), ?_⟩
            have hsn : (sF (t.syss.take k) (ix t.syss k).name).isSome = true := by rw [← fIx_ge]; exact h12
            have hb : sy1 t.syss k = 9 := by unfold sy1; simp only [h1, h4, h7, h9, h11, h12, hsn, Bool.true_or, Bool.false_or, Bool.or_true, Bool.or_false, Bool.not_true, Bool.not_false, cond_true, cond_false, Bool.true_and, Bool.false_and, Bool.and_true, Bool.and_false] <;> rfl
            rw [tck_s h1 h4 (show syE t.syss = 9 from fe_yes (by omega) hc hb (by decide)) (by decide)]; rfl
          · skip
            have h14 := f_dec h12
            refine a_skip ?_
            show A _ _ _ _ _ _ _
            refine a_rseq ?_
            refine rg_put (d := 42) (v := .pt 102 2) rfl (og rfl (of_eff (s_field_pt rfl Tryz.underlying31 rfl ti3 rfl rfl rfl) rfl)) ?_
            refine rg_put (d := 43) (v := .d (.fl (.int .i64 ((ix t.syss k).most)))) rfl (og rfl (op_load_pt rfl Tryz.underlying3 rfl rfl rfl rfl rfl)) ?_
            refine rg_put (d := 44) (v := .d (.fl (.bool ((decide ((ix t.syss k).most < 0)))))) rfl (og rfl (op_bin rfl rfl rfl (b_lss _ _ _ _) rfl)) ?_
            refine rg_put (d := 45) (v := .d (.fl (.bool ((decide ((ix t.syss k).most < 0)))))) rfl (og rfl (op_move rfl rfl rfl)) ?_
            rcases fot ((decide ((ix t.syss k).most < 0))) with h15 | h15
            · skip
              have h16 := f_dec h15
              refine rg_put (d := 46) (v := .pt 102 2) rfl (oy rfl rfl rfl h15 (of_eff (s_field_pt rfl Tryz.underlying31 rfl ti3 rfl rfl rfl) rfl)) ?_
              refine rg_put (d := 47) (v := .d (.fl (.int .i64 ((ix t.syss k).most)))) rfl (oy rfl rfl rfl h15 (op_load_pt rfl Tryz.underlying3 rfl rfl rfl rfl rfl)) ?_
              refine rg_put (d := 48) (v := .d (.fl (.bool ((decide (2147483648 < (ix t.syss k).most)))))) rfl (oy rfl rfl rfl h15 (op_bin rfl rfl rfl (b_gtr _ _ _ _) rfl)) ?_
              refine rg_put (d := 49) (v := .d (.fl (.bool ((decide (2147483648 < (ix t.syss k).most)))))) rfl (og rfl (op_pick rfl rfl (by rw [h15]; rfl) rfl)) ?_
              refine rg_put (d := 50) (v := .d (.fl (.bool ((decide (2147483648 < (ix t.syss k).most)))))) rfl (og rfl (op_move rfl rfl rfl)) ?_
              rcases fot ((decide (2147483648 < (ix t.syss k).most))) with h17 | h17
              · skip
                have h18 := f_dec h17
                refine rg_put (d := 51) (v := .pt 102 1) rfl (oy rfl rfl rfl h17 (of_eff (s_field_pt rfl Tryz.underlying31 rfl ti4 rfl rfl rfl) rfl)) ?_
                refine rg_put (d := 52) (v := .d (.fl (.bool ((ix t.syss k).closed)))) rfl (oy rfl rfl rfl h17 (op_load_pt rfl Tryz.underlying4 rfl rfl rfl rfl rfl)) ?_
                refine rg_put (d := 53) (v := .d (.fl (.bool ((ix t.syss k).closed)))) rfl (oy rfl rfl rfl h17 (op_move rfl rfl rfl)) ?_
                rcases fot ((ix t.syss k).closed) with h19 | h19
                · skip
                  refine rg_put (d := 54) (v := .d (.fl undef)) rfl (on rfl rfl rfl h19) ?_
                  refine rg_put (d := 55) (v := .d (.fl undef)) rfl (on rfl rfl rfl h19) ?_
                  refine rg_put (d := 56) (v := .d (.fl undef)) rfl (on rfl rfl rfl h19) ?_
                  refine rg_put (d := 57) (v := .d (.fl (.bool false))) rfl (oy rfl rfl rfl h17 (op_pick rfl rfl (by rw [h19]; rfl) rfl)) ?_
                  refine rg_put (d := 58) (v := .d (.fl (.bool false))) rfl (og rfl (op_pick rfl rfl (by rw [h17]; rfl) rfl)) ?_
                  refine rg_done rfl ?_
                  refine a_condF rfl rfl ?_
                  refine a_skip ?_
                  show A _ _ _ _ _ _ _
                  refine a_region ?_
                  refine rg_put (d := 23) (v := .d (.fl (.int .i64 (k : Int)))) rfl (og rfl (op_move rfl rfl rfl)) ?_
                  refine rg_put (d := 24) (v := .d (.fl (.int .i64 (((k : Int) + 1))))) rfl (og rfl (op_bin rfl rfl rfl (fun x y w => b_add64 _ _ _ x y w (by omega)) rfl)) ?_
                  refine rg_put (d := 4) (v := .d (.fl (.int .i64 (((k : Int) + 1))))) rfl (og rfl (op_assign rfl rfl rfl)) ?_
                  refine rg_done rfl ?_
                  have hsn : (sF (t.syss.take k) (ix t.syss k).name).isSome = false := by rw [← fIx_ge]; exact h12
                  have hb : sy1 t.syss k = 0 := by unfold sy1; simp only [h1, h4, h7, h9, h11, h12, h15, h17, h19, hsn, Bool.true_or, Bool.false_or, Bool.or_true, Bool.or_false, Bool.not_true, Bool.not_false, cond_true, cond_false, Bool.true_and, Bool.false_and, Bool.and_true, Bool.and_false] <;> rfl
                  show ∃ i, _ ∧ _ ∧ Imp _ _ _ _ _
                  refine ⟨k + 1, ⟨by omega, fe_no (by omega) hc hb⟩, by omega, imp_forget rfl ⟨rfl, rfl, rfl, rfl, rfl, (by first | rfl | exact ci (by omega) | exact ci (by simp) | exact cd (by simp) | simp), trivial⟩ ⟨rfl, trivial⟩⟩
                · skip
                  refine rg_put (d := 54) (v := .pt 102 2) rfl (oy rfl rfl rfl h19 (of_eff (s_field_pt rfl Tryz.underlying31 rfl ti3 rfl rfl rfl) rfl)) ?_
                  refine rg_put (d := 55) (v := .d (.fl (.int .i64 ((ix t.syss k).most)))) rfl (oy rfl rfl rfl h19 (op_load_pt rfl Tryz.underlying3 rfl rfl rfl rfl rfl)) ?_
                  refine rg_put (d := 56) (v := .d (.fl (.bool (((ix t.syss k).most == 0))))) rfl (oy rfl rfl rfl h19 (op_bin rfl rfl rfl (b_eql _ _ _ _) rfl)) ?_
                  refine rg_put (d := 57) (v := .d (.fl (.bool (((ix t.syss k).most == 0))))) rfl (oy rfl rfl rfl h17 (op_pick rfl rfl (by rw [h19]; rfl) rfl)) ?_
                  refine rg_put (d := 58) (v := .d (.fl (.bool (((ix t.syss k).most == 0))))) rfl (og rfl (op_pick rfl rfl (by rw [h17]; rfl) rfl)) ?_
                  refine rg_done rfl ?_
                  refine a_cond rfl (fun h20 => ?_) (fun h20 => ?_)
                  · skip
                    have h21 := t_beq h20
                    refine a_rseq ?_
                    refine rg_put (d := 2) (v := .d (.fl (.int .i64 12))) rfl (og rfl (op_assign rfl rfl rfl)) ?_
                    refine rg_done rfl ?_
                    refine a_ret ?_
                    show ∃ ds, ResL _ _ _ ds ∧ RV.of ds = _
                    refine ⟨[.fl (.int .i64 12)], (.cons (.tmp rfl (.d _)) .nil), ?_⟩
                    have hsn : (sF (t.syss.take k) (ix t.syss k).name).isSome = false := by rw [← fIx_ge]; exact h12
                    have hb : sy1 t.syss k = 12 := by unfold sy1; simp only [h1, h4, h7, h9, h11, h12, h15, h17, h19, h20, hsn, Bool.true_or, Bool.false_or, Bool.or_true, Bool.or_false, Bool.not_true, Bool.not_false, cond_true, cond_false, Bool.true_and, Bool.false_and, Bool.and_true, Bool.and_false] <;> rfl
                    rw [tck_s h1 h4 (show syE t.syss = 12 from fe_yes (by omega) hc hb (by decide)) (by decide)]; rfl
                  · skip
                    have h22 := f_beq h20
                    refine a_skip ?_
                    show A _ _ _ _ _ _ _
                    refine a_region ?_
                    refine rg_put (d := 23) (v := .d (.fl (.int .i64 (k : Int)))) rfl (og rfl (op_move rfl rfl rfl)) ?_
                    refine rg_put (d := 24) (v := .d (.fl (.int .i64 (((k : Int) + 1))))) rfl (og rfl (op_bin rfl rfl rfl (fun x y w => b_add64 _ _ _ x y w (by omega)) rfl)) ?_
                    refine rg_put (d := 4) (v := .d (.fl (.int .i64 (((k : Int) + 1))))) rfl (og rfl (op_assign rfl rfl rfl)) ?_
                    refine rg_done rfl ?_
                    have hsn : (sF (t.syss.take k) (ix t.syss k).name).isSome = false := by rw [← fIx_ge]; exact h12
                    have hb : sy1 t.syss k = 0 := by unfold sy1; simp only [h1, h4, h7, h9, h11, h12, h15, h17, h19, h20, hsn, Bool.true_or, Bool.false_or, Bool.or_true, Bool.or_false, Bool.not_true, Bool.not_false, cond_true, cond_false, Bool.true_and, Bool.false_and, Bool.and_true, Bool.and_false] <;> rfl
                    show ∃ i, _ ∧ _ ∧ Imp _ _ _ _ _
                    refine ⟨k + 1, ⟨by omega, fe_no (by omega) hc hb⟩, by omega, imp_forget rfl ⟨rfl, rfl, rfl, rfl, rfl, (by first | rfl | exact ci (by omega) | exact ci (by simp) | exact cd (by simp) | simp), trivial⟩ ⟨rfl, trivial⟩⟩
              · skip
                have h23 := t_dec h17
                refine rg_put (d := 51) (v := .d (.fl undef)) rfl (on rfl rfl rfl h17) ?_
                refine rg_put (d := 52) (v := .d (.fl undef)) rfl (on rfl rfl rfl h17) ?_
                refine rg_put (d := 53) (v := .d (.fl undef)) rfl (on rfl rfl rfl h17) ?_
                refine rg_put (d := 54) (v := .d (.fl undef)) rfl (ou rfl rfl rfl) ?_
                refine rg_put (d := 55) (v := .d (.fl undef)) rfl (ou rfl rfl rfl) ?_
                refine rg_put (d := 56) (v := .d (.fl undef)) rfl (ou rfl rfl rfl) ?_
                refine rg_put (d := 57) (v := .d (.fl undef)) rfl (on rfl rfl rfl h17) ?_
                refine rg_put (d := 58) (v := .d (.fl (.bool true))) rfl (og rfl (op_pick rfl rfl (by rw [h17]; rfl) rfl)) ?_
                refine rg_done rfl ?_
                refine a_condK rfl rfl ?_
                refine a_rseq ?_
                refine rg_put (d := 2) (v := .d (.fl (.int .i64 12))) rfl (og rfl (op_assign rfl rfl rfl)) ?_
                refine rg_done rfl ?_
                refine a_ret ?_
                show ∃ ds, ResL _ _ _ ds ∧ RV.of ds = _
                refine ⟨[.fl (.int .i64 12)], (.cons (.tmp rfl (.d _)) .nil), ?_⟩
                have hsn : (sF (t.syss.take k) (ix t.syss k).name).isSome = false := by rw [← fIx_ge]; exact h12
                have hb : sy1 t.syss k = 12 := by unfold sy1; simp only [h1, h4, h7, h9, h11, h12, h15, h17, hsn, Bool.true_or, Bool.false_or, Bool.or_true, Bool.or_false, Bool.not_true, Bool.not_false, cond_true, cond_false, Bool.true_and, Bool.false_and, Bool.and_true, Bool.and_false] <;> rfl
                rw [tck_s h1 h4 (show syE t.syss = 12 from fe_yes (by omega) hc hb (by decide)) (by decide)]; rfl
            · skip
              have h24 := t_dec h15
              refine rg_put (d := 46) (v := .d (.fl undef)) rfl (on rfl rfl rfl h15) ?_
              refine rg_put (d := 47) (v := .d (.fl undef)) rfl (on rfl rfl rfl h15) ?_
              refine rg_put (d := 48) (v := .d (.fl undef)) rfl (on rfl rfl rfl h15) ?_
              refine rg_put (d := 49) (v := .d (.fl (.bool true))) rfl (og rfl (op_pick rfl rfl (by rw [h15]; rfl) rfl)) ?_
              refine rg_put (d := 50) (v := .d (.fl (.bool true))) rfl (og rfl (op_move rfl rfl rfl)) ?_
              refine rg_put (d := 51) (v := .d (.fl undef)) rfl (on rfl rfl rfl rfl) ?_
              refine rg_put (d := 52) (v := .d (.fl undef)) rfl (on rfl rfl rfl rfl) ?_
              refine rg_put (d := 53) (v := .d (.fl undef)) rfl (on rfl rfl rfl rfl) ?_
              refine rg_put (d := 54) (v := .d (.fl undef)) rfl (ou rfl rfl rfl) ?_
              refine rg_put (d := 55) (v := .d (.fl undef)) rfl (ou rfl rfl rfl) ?_
              refine rg_put (d := 56) (v := .d (.fl undef)) rfl (ou rfl rfl rfl) ?_
              refine rg_put (d := 57) (v := .d (.fl undef)) rfl (on rfl rfl rfl rfl) ?_
              refine rg_put (d := 58) (v := .d (.fl (.bool true))) rfl (og rfl (op_pick rfl rfl rfl rfl)) ?_
              refine rg_done rfl ?_
              refine a_condK rfl rfl ?_
              refine a_rseq ?_
              refine rg_put (d := 2) (v := .d (.fl (.int .i64 12))) rfl (og rfl (op_assign rfl rfl rfl)) ?_
              refine rg_done rfl ?_
              refine a_ret ?_
              show ∃ ds, ResL _ _ _ ds ∧ RV.of ds = _
              refine ⟨[.fl (.int .i64 12)], (.cons (.tmp rfl (.d _)) .nil), ?_⟩
              have hsn : (sF (t.syss.take k) (ix t.syss k).name).isSome = false := by rw [← fIx_ge]; exact h12
              have hb : sy1 t.syss k = 12 := by unfold sy1; simp only [h1, h4, h7, h9, h11, h12, h15, hsn, Bool.true_or, Bool.false_or, Bool.or_true, Bool.or_false, Bool.not_true, Bool.not_false, cond_true, cond_false, Bool.true_and, Bool.false_and, Bool.and_true, Bool.and_false] <;> rfl
              rw [tck_s h1 h4 (show syE t.syss = 12 from fe_yes (by omega) hc hb (by decide)) (by decide)]; rfl
      · skip
        have h25 := f_dec h7
        refine a_exit ?_
        show A _ _ _ _ _ _ _
        refine a_seq ?_
        refine a_rseq ?_
        have hs0 : syE t.syss = 0 := by rw [fe_end (by omega)] at hc; exact hc
        have hkd : ∀ j, j < t.net.pts.length → 1 ≤ (ix t.net.pts j).kind ∧ (ix t.net.pts j).kind ≤ 4 := fun j h => pt_kind ((gck_0 (f_bne h1)).2.2.1 j h)
        have hp64 : t.net.pts.length ≤ 64 := (gck_0 (f_bne h1)).1
        refine rg_put (d := 6) (v := .d (.fl (.int .i64 0))) rfl (og rfl (op_assign rfl rfl rfl)) ?_
        refine rg_done rfl ?_
        refine a_block ?_
        refine a_loop (ι := Nat) (fun j => SS [(0, .d (.ag (eTpg t))), (1, .pt 101 0), (3, .d (.fl (.int .i64 (gck t.net)))), (4, .d (.fl (.int .i64 (k : Int)))), (12, .d (.fl (.bool (((gck t.net) != 0))))), (17, .d (.fl (.bool ((decide (64 < (t.syss.length : Int))))))), (22, .d (.fl (.bool ((decide ((k : Int) < (t.syss.length : Int))))))), (6, .d (.fl (.int .i64 (j : Int))))] [(101, .bx 28 (eTpg t))]) (fun j => j ≤ t.net.pts.length ∧ peE t = fe (pe1 t) j (t.net.pts.length - j)) (fun j => t.net.pts.length - j) 0 (⟨by omega, rfl⟩) (imp_forget rfl ⟨rfl, rfl, rfl, rfl, rfl, rfl, rfl, (by first | rfl | exact ci (by omega) | exact ci (by simp) | exact cd (by simp) | simp), trivial⟩ ⟨rfl, trivial⟩) (fun j hok => ?_)
        obtain ⟨hk, hc⟩ := hok
        refine a_seq ?_
        refine a_rseq ?_
        refine rg_put (d := 59) (v := .d (.fl (.int .i64 (j : Int)))) rfl (og rfl (op_move rfl rfl rfl)) ?_
        refine rg_put (d := 60) (v := .pt 101 0) rfl (og rfl (of_eff (s_field_pt rfl Tryz.underlying28 rfl ti25 rfl rfl rfl) rfl)) ?_
        refine rg_put (d := 61) (v := .pt 101 0) rfl (og rfl (of_eff (s_field_pt rfl Tryz.underlying25 rfl ti22 rfl rfl rfl) rfl)) ?_
        refine rg_put (d := 62) (v := .d (.sl 3 (List.map ePnt t.net.pts))) rfl (og rfl (op_load_pt rfl Tryz.underlying22 rfl rfl rfl rfl rfl)) ?_
        refine rg_put (d := 63) (v := .d (.fl (.int .i64 (t.net.pts.length : Int)))) rfl (og rfl (s_len rfl Tryz.underlying22 rfl rfl)) ?_
        refine rg_put (d := 64) (v := .d (.fl (.bool ((decide ((j : Int) < (t.net.pts.length : Int))))))) rfl (og rfl (op_bin rfl rfl rfl (b_lss _ _ _ _) rfl)) ?_
        refine rg_done rfl ?_
        refine a_cond rfl (fun h26 => ?_) (fun h26 => ?_)
        · skip
          have h27 := t_dec h26
          refine a_skip ?_
          show A _ _ _ _ _ _ _
          refine a_seq ?_
          refine a_block ?_
          refine a_dseq (by kernel_rfl) ?_
          refine dr_put (d := 67) (v := .d (.ag (eTpg t))) rfl (og rfl (of_eff (s_load_pts rfl Tryz.underlying28 rfl ti28 rfl rfl rfl rfl) rfl)) ?_
          refine dr_put (d := 68) (v := .pt 101 0) rfl (og rfl (of_eff (s_field_pt rfl Tryz.underlying28 rfl ti25 rfl rfl rfl) rfl)) ?_
          refine dr_put (d := 69) (v := .pt 101 0) rfl (og rfl (of_eff (s_field_pt rfl Tryz.underlying25 rfl ti22 rfl rfl rfl) rfl)) ?_
          refine dr_put (d := 70) (v := .d (.sl 3 (List.map ePnt t.net.pts))) rfl (og rfl (op_load_pt rfl Tryz.underlying22 rfl rfl rfl rfl rfl)) ?_
          refine dr_put (d := 71) (v := .d (.fl (.int .i64 (j : Int)))) rfl (og rfl (op_move rfl rfl rfl)) ?_
          refine dr_put (d := 72) (v := .el ((ePnt (ix t.net.pts j)))) rfl (og rfl (s_index rfl Tryz.underlying22 ti42 rfl rfl (by omega) (row_at (by omega)) rfl)) ?_
          refine dr_put (d := 73) (v := .d (.ag (ePnt (ix t.net.pts j)))) rfl (og rfl (of_eff (s_load_els rfl Tryz.underlying42 rfl ti42 rfl rfl rfl) rfl)) ?_
          refine dr_put (d := 74) (v := .d (.fl (.int .i64 (pe1 t j)))) rfl (og rfl (op_call rfl Tryz.func47 nm47 rfl (.cons rfl (.d _) (.cons rfl (.d _) .nil)) (pnt_c t (ix t.net.pts j) (by omega)) rfl)) ?_
          refine dr_put (d := 7) (v := .d (.fl (.int .i64 (pe1 t j)))) rfl (og rfl (op_assign rfl rfl rfl)) ?_
          refine dr_done rfl (by kernel_rfl) (by kernel_rfl) ?_
          refine a_rseq ?_
          refine rg_put (d := 75) (v := .d (.fl (.int .i64 (pe1 t j)))) rfl (og rfl (op_move rfl rfl rfl)) ?_
          refine rg_put (d := 76) (v := .d (.fl (.bool (((pe1 t j) != 0))))) rfl (og rfl (op_bin rfl rfl rfl (b_neq _ _ _ _) rfl)) ?_
          refine rg_done rfl ?_
          refine a_cond rfl (fun h28 => ?_) (fun h28 => ?_)
          · skip
            have h29 := t_bne h28
            refine a_rseq ?_
            refine rg_put (d := 77) (v := .d (.fl (.int .i64 (pe1 t j)))) rfl (og rfl (op_move rfl rfl rfl)) ?_
            refine rg_put (d := 2) (v := .d (.fl (.int .i64 (pe1 t j)))) rfl (og rfl (op_assign rfl rfl rfl)) ?_
            refine rg_done rfl ?_
            refine a_ret ?_
            show ∃ ds, ResL _ _ _ ds ∧ RV.of ds = _
            refine ⟨[.fl (.int .i64 (pe1 t j))], (.cons (.tmp rfl (.d _)) .nil), ?_⟩
            rw [tck_p h1 h4 hs0, show peE t = pe1 t j from fe_yes (by omega) hc rfl (t_bne h28)]; rfl
          · skip
            have h30 := f_bne h28
            refine a_skip ?_
            show A _ _ _ _ _ _ _
            refine a_region ?_
            refine rg_put (d := 65) (v := .d (.fl (.int .i64 (j : Int)))) rfl (og rfl (op_move rfl rfl rfl)) ?_
            refine rg_put (d := 66) (v := .d (.fl (.int .i64 (((j : Int) + 1))))) rfl (og rfl (op_bin rfl rfl rfl (fun x y w => b_add64 _ _ _ x y w (by omega)) rfl)) ?_
            refine rg_put (d := 6) (v := .d (.fl (.int .i64 (((j : Int) + 1))))) rfl (og rfl (op_assign rfl rfl rfl)) ?_
            refine rg_done rfl ?_
            have hb : pe1 t j = 0 := f_bne h28
            show ∃ i, _ ∧ _ ∧ Imp _ _ _ _ _
            refine ⟨j + 1, ⟨by omega, fe_no (by omega) hc hb⟩, by omega, imp_forget rfl ⟨rfl, rfl, rfl, rfl, rfl, rfl, rfl, (by first | rfl | exact ci (by omega) | exact ci (by simp) | exact cd (by simp) | simp), trivial⟩ ⟨rfl, trivial⟩⟩
        · skip
          have h31 := f_dec h26
          refine a_exit ?_
          show A _ _ _ _ _ _ _
          refine a_rseq ?_
          refine rg_put (d := 2) (v := .d (.fl (.int .i64 0))) rfl (og rfl (op_assign rfl rfl rfl)) ?_
          refine rg_done rfl ?_
          refine a_ret ?_
          show ∃ ds, ResL _ _ _ ds ∧ RV.of ds = _
          refine ⟨[.fl (.int .i64 0)], (.cons (.tmp rfl (.d _)) .nil), ?_⟩
          rw [tck_p h1 h4 hs0, show peE t = 0 from by rw [fe_end (by omega)] at hc; exact hc]; rfl
end Go.Proofs.YtlmihhecpaomjaaGreat.Wk
