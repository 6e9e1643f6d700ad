/- One dispute checked. Condition: strings of a possible length. -/
import Derived.Test.YtocjbombpggmeaaB3
set_option linter.unusedSimpArgs false
set_option linter.unusedVariables false
namespace Go.Proofs.Ytocjbombpggmeaa.Wk
open Go Go.RowKit Go.Proofs.Ytocjbombpggmeaa.Av
def am (v : ByteArray) (l : List ByteArray) : Bool := l.any fun x => sEq x v
theorem sEq_comm (a b : ByteArray) : sEq a b = sEq b a := by
  unfold sEq
  by_cases h : a = b
  · rw [decide_eq_true h, decide_eq_true h.symm]
  · rw [decide_eq_false h, decide_eq_false (fun e => h e.symm)]
theorem idx_any {α : Type} (p : α → Bool) (l : List α) : decide (0 ≤ idx p l) = l.any p := by
  unfold idx
  cases h : l.findIdx? p with
  | none =>
    have := List.findIdx?_eq_none_iff.1 h
    have h2 : l.any p = false := by rw [List.any_eq_false]; intro x hx; rw [this x hx]; simp
    rw [h2]; rfl
  | some i =>
    have hi := List.findIdx?_eq_some_iff_getElem.1 h
    obtain ⟨h1, h2, _⟩ := hi
    have h3 : l.any p = true := List.any_eq_true.2 ⟨_, List.getElem_mem h1, h2⟩
    rw [h3]
    exact decide_eq_true (show (0 : Int) ≤ ((i : Nat) : Int) by omega)
theorem has_am (v : ByteArray) (l : List ByteArray) : has v l = am v l := by
  unfold has am
  rw [idx_any]
  congr 1
  funext x
  exact sEq_comm v x
theorem am_yes {v : ByteArray} {l : List ByteArray} {k : Nat} (hk : k < l.length) (h : sEq (ix l k) v = true) : am v l = true := List.any_eq_true.2 ⟨_, ix_mem hk, h⟩
theorem am_no {v : ByteArray} {l : List ByteArray} (h : ∀ q, q < l.length → sEq (ix l q) v = false) : am v l = false := by
  unfold am
  rw [List.any_eq_false]
  intro x hx
  obtain ⟨j, hj, he⟩ := List.mem_iff_getElem.1 hx
  rw [ix_eq hj] at he
  rw [← he, h j hj]; simp
theorem str_am (l : List ByteArray) (v : ByteArray) (hl : l.length < 9223372036854775807) : Ctr Try.prog 22 [.sl 1 (List.map rS l), .fl (.string v)] (.d (.fl (.bool (am v l)))) := by
  have := str_has l v hl
  rwa [has_am] at this
def fe (f : Nat → Int) : Nat → Nat → Int
  | _, 0 => 0
  | i, n + 1 => if f i = 0 then fe f (i + 1) n else f i
theorem fe_at {f : Nat → Int} {k n : Nat} (h : k < n) : fe f k (n - k) = if f k = 0 then fe f (k + 1) (n - (k + 1)) else f k := by
  rw [show n - k = (n - (k + 1)) + 1 by omega]; rfl
theorem fe_end {f : Nat → Int} {k n : Nat} (h : ¬ k < n) : fe f k (n - k) = 0 := by
  rw [show n - k = 0 by omega]; rfl
theorem fe_no {f : Nat → Int} {k n : Nat} {c : Int} (h : k < n) (hc : c = fe f k (n - k)) (hb : f k = 0) : c = fe f (k + 1) (n - (k + 1)) := by rw [hc, fe_at h, if_pos hb]
theorem fe_yes {f : Nat → Int} {k n : Nat} {c e : Int} (h : k < n) (hc : c = fe f k (n - k)) (hb : f k = e) (he : e ≠ 0) : c = e := by rw [hc, fe_at h, hb, if_neg he]
def pj (p : List ByteArray) (j : Nat) : Int := if (!isR (ix p j)) = true then 5 else if am (ix p j) ((p.drop 0).take (j - 0)) = true then 9 else 0
def one (d : Dp) : Int := if (!isT d.time) = true then 12 else if (!isC d.cents) = true then 13 else if (decide (d.state < 1) || decide (4 < d.state)) = true then 1 else if decide ((16 : Int) < (d.proofs.length : Int)) = true then 3 else fe (pj d.proofs) 0 d.proofs.length
def dup (l : List Dp) (i : Nat) : Bool := (l.take i).any fun x => sEq x.key (ix l i).key
def bad (l : List Dp) (i : Nat) : Int := if (!isR (ix l i).key) = true then 5 else if dup l i = true then 9 else one (ix l i)
def ck (l : List Dp) : Int := if decide ((1024 : Int) < (l.length : Int)) = true then 3 else fe (bad l) 0 l.length
theorem ck_go {l : List Dp} (h : decide ((1024 : Int) < (l.length : Int)) = false) : ck l = fe (bad l) 0 (l.length - 0) := by unfold ck; rw [h]; rfl
theorem dup_find {l : List Dp} {k : Nat} : decide (0 ≤ dfind ((l.drop 0).take (k - 0)) (ix l k).key) = dup l k := idx_any _ _
def setE (l : List Dp) : List (Value × DV) := l.map fun x => (Value.string x.key, DV.fl (.bool true))
theorem setE_take {l : List Dp} {k : Nat} (h : k < l.length) : setE (l.take k) ++ [(Value.string (ix l k).key, DV.fl (.bool true))] = setE (l.take (k + 1)) := by
  rw [take_ix h]; unfold setE; rw [List.map_append]; rfl
/-- strings of a list that is read are no longer than what is laid down -/
def SZ (l : List Dp) : Prop := ∀ q, q < l.length → (ix l q).key.size ≤ 9223372036854775807 ∧ ∀ j, j < (ix l q).proofs.length → (ix (ix l q).proofs j).size ≤ 9223372036854775807

set_option maxHeartbeats 4000000 in
set_option maxRecDepth 100000 in
theorem among41 (l : List ByteArray) (v : ByteArray) (hl : l.length < 9223372036854775807) : Ctr Try.prog 41 [.sl 1 (List.map rS l), .fl (.string v)] (.d (.fl (.bool (am v l)))) := by
  refine ctr (n := 18) (rs := #[.tmp 4]) (L := [(0, .d (.sl 1 (List.map rS l))), (1, .d (.fl (.string v)))]) Try.func41 rfl rfl rfl rfl rfl (fun w0 U0 => ?_)
  refine a_rseq ?_
  refine rg_put (d := 4) (v := .d (.fl (.bool false))) rfl (og rfl (op_assign rfl rfl rfl)) ?_
  refine rg_done rfl ?_
  refine a_seq ?_
  refine a_rseq ?_
  refine rg_put (d := 5) (v := .d (.fl (.int .i64 0))) rfl (og rfl (op_assign rfl rfl rfl)) ?_
  refine rg_done rfl ?_
  refine a_block ?_
  refine a_loop (ι := Nat) (fun k => SS [(0, .d (.sl 1 (List.map rS l))), (1, .d (.fl (.string v))), (5, .d (.fl (.int .i64 (k : Int))))] []) (fun k => k ≤ l.length ∧ ∀ q, q < k → (sEq (ix l q) v) = false) (fun k => l.length - k) 0 (⟨by omega, fun q h => by omega⟩) (imp_forget rfl ⟨rfl, rfl, (by first | rfl | exact ci (by omega) | exact ci (by simp) | exact cd (by simp) | simp), trivial⟩ trivial) (fun k hok => ?_)
  obtain ⟨hk, hq⟩ := hok
  refine a_seq ?_
  refine a_rseq ?_
  refine rg_put (d := 6) (v := .d (.fl (.int .i64 (k : Int)))) rfl (og rfl (op_move rfl rfl rfl)) ?_
  refine rg_put (d := 7) (v := .d (.sl 1 (List.map rS l))) rfl (og rfl (op_move rfl rfl rfl)) ?_
  refine rg_put (d := 8) (v := .d (.fl (.int .i64 (l.length : Int)))) rfl (og rfl (s_len rfl Try.underlying38 rfl rfl)) ?_
  refine rg_put (d := 9) (v := .d (.fl (.bool ((decide ((k : Int) < (l.length : Int))))))) rfl (og rfl (op_bin rfl rfl rfl (b_lss _ _ _ _) rfl)) ?_
  refine rg_done rfl ?_
  refine a_cond rfl (fun h1 => ?_) (fun h1 => ?_)
  · skip
    have h2 := t_dec h1
    refine a_skip ?_
    show A _ _ _ _ _ _ _
    refine a_seq ?_
    refine a_block ?_
    refine a_rseq ?_
    refine rg_put (d := 12) (v := .d (.sl 1 (List.map rS l))) rfl (og rfl (op_move rfl rfl rfl)) ?_
    refine rg_put (d := 13) (v := .d (.fl (.int .i64 (k : Int)))) rfl (og rfl (op_move rfl rfl rfl)) ?_
    refine rg_put (d := 14) (v := .el ((rS (ix l k)))) rfl (og rfl (s_index rfl Try.underlying38 ti9 rfl rfl (by omega) (row_at (by omega)) rfl)) ?_
    refine rg_put (d := 15) (v := .d (.fl (.string (ix l k)))) rfl (og rfl (op_load_el rfl Try.underlying9 rfl rfl rfl rfl)) ?_
    refine rg_put (d := 16) (v := .d (.fl (.string v))) rfl (og rfl (op_move rfl rfl rfl)) ?_
    refine rg_put (d := 17) (v := .d (.fl (.bool ((sEq (ix l k) v))))) rfl (og rfl (op_bin rfl rfl rfl (b_seq _ _ _) rfl)) ?_
    refine rg_done rfl ?_
    refine a_cond rfl (fun h3 => ?_) (fun h3 => ?_)
    · skip
      refine a_rseq ?_
      refine rg_put (d := 4) (v := .d (.fl (.bool true))) rfl (og rfl (op_assign rfl rfl rfl)) ?_
      refine rg_done rfl ?_
      refine a_ret ?_
      show ∃ ds, ResL _ _ _ ds ∧ RV.of ds = _
      refine ⟨[.fl (.bool true)], (.cons (.tmp rfl (.d _)) .nil), ?_⟩
      exact congrArg (fun b => RV.d (.fl (.bool b))) (am_yes (by omega) h3).symm
    · skip
      refine a_skip ?_
      show A _ _ _ _ _ _ _
      refine a_region ?_
      refine rg_put (d := 10) (v := .d (.fl (.int .i64 (k : Int)))) rfl (og rfl (op_move rfl rfl rfl)) ?_
      refine rg_put (d := 11) (v := .d (.fl (.int .i64 (((k : Int) + 1))))) rfl (og rfl (op_bin rfl rfl rfl (fun x y w => b_add64 _ _ _ x y w (by omega)) rfl)) ?_
      refine rg_put (d := 5) (v := .d (.fl (.int .i64 (((k : Int) + 1))))) rfl (og rfl (op_assign rfl rfl rfl)) ?_
      refine rg_done rfl ?_
      show ∃ i, _ ∧ _ ∧ Imp _ _ _ _ _
      refine ⟨k + 1, ⟨by omega, fun q h => by
        rcases Nat.lt_succ_iff_lt_or_eq.1 h with h | h
        · exact hq q h
        · subst h; exact h3⟩, by omega, imp_forget rfl ⟨rfl, rfl, (by first | rfl | exact ci (by omega) | exact ci (by simp) | exact cd (by simp) | simp), trivial⟩ trivial⟩
  · skip
    have h4 := f_dec h1
    refine a_exit ?_
    show A _ _ _ _ _ _ _
    refine a_rseq ?_
    refine rg_put (d := 4) (v := .d (.fl (.bool false))) rfl (og rfl (op_assign rfl rfl rfl)) ?_
    refine rg_done rfl ?_
    refine a_ret ?_
    show ∃ ds, ResL _ _ _ ds ∧ RV.of ds = _
    refine ⟨[.fl (.bool false)], (.cons (.tmp rfl (.d _)) .nil), ?_⟩
    exact congrArg (fun b => RV.d (.fl (.bool b))) (am_no (fun q h => hq q (by omega))).symm
set_option maxHeartbeats 4000000 in
set_option maxRecDepth 100000 in
theorem one25 (d : Dp) (hs : ∀ j, j < d.proofs.length → (ix d.proofs j).size ≤ 9223372036854775807) : Ctr Try.prog 25 [.ag (eDp d)] (.d (.fl (.int .i64 (one d)))) := by
  refine ctr (n := 48) (rs := #[.tmp 2]) (L := [(0, .d (.ag (eDp d)))]) Try.func25 rfl rfl rfl rfl rfl (fun w0 U0 => ?_)
  refine a_rseq ?_
  refine rg_nam (d := 1) (v := .pt 101 0) (m := 101) (nw := [(101, .bx 40 (eDp d))]) rfl (og rfl (of_eff (op_box 101 rfl rfl rfl rfl) rfl)) rfl ?_
  refine rg_put (d := 2) (v := .d (.fl (.int .i64 0))) rfl (og rfl (op_assign rfl rfl rfl)) ?_
  refine rg_done rfl ?_
  refine a_seq ?_
  refine a_rseq ?_
  refine rg_put (d := 4) (v := .pt 101 1) rfl (og rfl (of_eff (s_field_pt rfl Try.underlying40 rfl ti3 rfl rfl rfl) rfl)) ?_
  refine rg_put (d := 5) (v := .d (.fl (.int .i64 d.time))) rfl (og rfl (op_load_pt rfl Try.underlying3 rfl rfl rfl rfl rfl)) ?_
  refine rg_put (d := 6) (v := .d (.fl (.bool (isT d.time)))) rfl (og rfl (op_call rfl Try.func39 nm39 rfl (.cons rfl (.d _) .nil) (isTime39 d.time) rfl)) ?_
  refine rg_put (d := 7) (v := .d (.fl (.bool ((!(isT d.time)))))) rfl (og rfl (op_un rfl rfl (u_not _) rfl)) ?_
  refine rg_done rfl ?_
  refine a_cond rfl (fun h1 => ?_) (fun h1 => ?_)
  · skip
    have h2 := t_not h1
    refine a_rseq ?_
    refine rg_put (d := 2) (v := .d (.fl (.int .i64 12))) rfl (og rfl (op_assign rfl rfl rfl)) ?_
    refine rg_done rfl ?_
    refine a_ret ?_
    show ∃ ds, ResL _ _ _ ds ∧ RV.of ds = _
    refine ⟨[.fl (.int .i64 12)], (.cons (.tmp rfl (.d _)) .nil), ?_⟩
    have hu : one d = 12 := by
      unfold one; simp only [h1, h2]; rfl
    rw [hu]; rfl
  · skip
    have h3 := f_not h1
    refine a_skip ?_
    show A _ _ _ _ _ _ _
    refine a_seq ?_
    refine a_rseq ?_
    refine rg_put (d := 8) (v := .pt 101 2) rfl (og rfl (of_eff (s_field_pt rfl Try.underlying40 rfl ti3 rfl rfl rfl) rfl)) ?_
    refine rg_put (d := 9) (v := .d (.fl (.int .i64 d.cents))) rfl (og rfl (op_load_pt rfl Try.underlying3 rfl rfl rfl rfl rfl)) ?_
    refine rg_put (d := 10) (v := .d (.fl (.bool (isC d.cents)))) rfl (og rfl (op_call rfl Try.func40 nm40 rfl (.cons rfl (.d _) .nil) (isC40 d.cents) rfl)) ?_
    refine rg_put (d := 11) (v := .d (.fl (.bool ((!(isC d.cents)))))) rfl (og rfl (op_un rfl rfl (u_not _) rfl)) ?_
    refine rg_done rfl ?_
    refine a_cond rfl (fun h4 => ?_) (fun h4 => ?_)
    · skip
      have h5 := t_not h4
      refine a_rseq ?_
      refine rg_put (d := 2) (v := .d (.fl (.int .i64 13))) rfl (og rfl (op_assign rfl rfl rfl)) ?_
      refine rg_done rfl ?_
      refine a_ret ?_
      show ∃ ds, ResL _ _ _ ds ∧ RV.of ds = _
      refine ⟨[.fl (.int .i64 13)], (.cons (.tmp rfl (.d _)) .nil), ?_⟩
      have hu : one d = 13 := by
        unfold one; simp only [h1, h3, h4, h5]; rfl
      rw [hu]; rfl
    · skip
      have h6 := f_not h4
      refine a_skip ?_
      show A _ _ _ _ _ _ _
      refine a_seq ?_
      refine a_rseq ?_
      refine rg_put (d := 12) (v := .pt 101 3) rfl (og rfl (of_eff (s_field_pt rfl Try.underlying40 rfl ti3 rfl rfl rfl) rfl)) ?_
      refine rg_put (d := 13) (v := .d (.fl (.int .i64 d.state))) rfl (og rfl (op_load_pt rfl Try.underlying3 rfl rfl rfl rfl rfl)) ?_
      refine rg_put (d := 14) (v := .d (.fl (.bool ((decide (d.state < 1)))))) rfl (og rfl (op_bin rfl rfl rfl (b_lss _ _ _ _) rfl)) ?_
      refine rg_put (d := 15) (v := .d (.fl (.bool ((decide (d.state < 1)))))) rfl (og rfl (op_move rfl rfl rfl)) ?_
      rcases fot ((decide (d.state < 1))) with h7 | h7
      · skip
        have h8 := f_dec h7
        refine rg_put (d := 16) (v := .pt 101 3) rfl (oy rfl rfl rfl h7 (of_eff (s_field_pt rfl Try.underlying40 rfl ti3 rfl rfl rfl) rfl)) ?_
        refine rg_put (d := 17) (v := .d (.fl (.int .i64 d.state))) rfl (oy rfl rfl rfl h7 (op_load_pt rfl Try.underlying3 rfl rfl rfl rfl rfl)) ?_
        refine rg_put (d := 18) (v := .d (.fl (.bool ((decide (4 < d.state)))))) rfl (oy rfl rfl rfl h7 (op_bin rfl rfl rfl (b_gtr _ _ _ _) rfl)) ?_
        refine rg_put (d := 19) (v := .d (.fl (.bool ((decide (4 < d.state)))))) rfl (og rfl (op_pick rfl rfl (by rw [h7]; rfl) rfl)) ?_
        refine rg_done rfl ?_
        refine a_cond rfl (fun h9 => ?_) (fun h9 => ?_)
        · skip
          have h10 := t_dec h9
          refine a_rseq ?_
          refine rg_put (d := 2) (v := .d (.fl (.int .i64 1))) rfl (og rfl (op_assign rfl rfl rfl)) ?_
          refine rg_done rfl ?_
          refine a_ret ?_
          show ∃ ds, ResL _ _ _ ds ∧ RV.of ds = _
          refine ⟨[.fl (.int .i64 1)], (.cons (.tmp rfl (.d _)) .nil), ?_⟩
          have hu : one d = 1 := by
            unfold one; simp only [h1, h3, h4, h6, h7, h9]; rfl
          rw [hu]; rfl
        · skip
          have h11 := f_dec h9
          refine a_skip ?_
          show A _ _ _ _ _ _ _
          refine a_seq ?_
          refine a_rseq ?_
          refine rg_put (d := 20) (v := .pt 101 4) rfl (og rfl (of_eff (s_field_pt rfl Try.underlying40 rfl ti38 rfl rfl rfl) rfl)) ?_
          refine rg_put (d := 21) (v := .d (.sl 1 (List.map rS d.proofs))) rfl (og rfl (op_load_pt rfl Try.underlying38 rfl rfl rfl rfl rfl)) ?_
          refine rg_put (d := 22) (v := .d (.fl (.int .i64 (d.proofs.length : Int)))) rfl (og rfl (s_len rfl Try.underlying38 rfl rfl)) ?_
          refine rg_put (d := 23) (v := .d (.fl (.bool ((decide (16 < (d.proofs.length : Int))))))) rfl (og rfl (op_bin rfl rfl rfl (b_gtr _ _ _ _) rfl)) ?_
          refine rg_done rfl ?_
          refine a_cond rfl (fun h12 => ?_) (fun h12 => ?_)
          · skip
            have h13 := t_dec h12
            refine a_rseq ?_
            refine rg_put (d := 2) (v := .d (.fl (.int .i64 3))) rfl (og rfl (op_assign rfl rfl rfl)) ?_
            refine rg_done rfl ?_
            refine a_ret ?_
            show ∃ ds, ResL _ _ _ ds ∧ RV.of ds = _
            refine ⟨[.fl (.int .i64 3)], (.cons (.tmp rfl (.d _)) .nil), ?_⟩
            have hu : one d = 3 := by
              unfold one; simp only [h1, h3, h4, h6, h7, h9, h12]; rfl
            rw [hu]; rfl
          · skip
            have h14 := f_dec h12
            refine a_skip ?_
            show A _ _ _ _ _ _ _
            refine a_seq ?_
            refine a_rseq ?_
            refine rg_put (d := 3) (v := .d (.fl (.int .i64 0))) rfl (og rfl (op_assign rfl rfl rfl)) ?_
            refine rg_done rfl ?_
            refine a_block ?_
            refine a_loop (ι := Nat) (fun j => SS [(0, .d (.ag (eDp d))), (1, .pt 101 0), (7, .d (.fl (.bool ((!(isT d.time)))))), (11, .d (.fl (.bool ((!(isC d.cents)))))), (19, .d (.fl (.bool ((decide (4 < d.state)))))), (23, .d (.fl (.bool ((decide (16 < (d.proofs.length : Int))))))), (3, .d (.fl (.int .i64 (j : Int))))] [(101, .bx 40 (eDp d))]) (fun j => j ≤ d.proofs.length ∧ fe (pj d.proofs) 0 d.proofs.length = fe (pj d.proofs) j (d.proofs.length - j)) (fun j => d.proofs.length - j) 0 (⟨by omega, by rw [Nat.sub_zero]⟩) (imp_forget rfl ⟨rfl, rfl, rfl, rfl, rfl, rfl, (by first | rfl | exact ci (by omega) | exact ci (by simp) | exact cd (by simp) | simp), trivial⟩ ⟨rfl, trivial⟩) (fun j hok => ?_)
            obtain ⟨hj, hcj⟩ := hok
            refine a_seq ?_
            refine a_rseq ?_
            refine rg_put (d := 24) (v := .d (.fl (.int .i64 (j : Int)))) rfl (og rfl (op_move rfl rfl rfl)) ?_
            refine rg_put (d := 25) (v := .pt 101 4) rfl (og rfl (of_eff (s_field_pt rfl Try.underlying40 rfl ti38 rfl rfl rfl) rfl)) ?_
            refine rg_put (d := 26) (v := .d (.sl 1 (List.map rS d.proofs))) rfl (og rfl (op_load_pt rfl Try.underlying38 rfl rfl rfl rfl rfl)) ?_
            refine rg_put (d := 27) (v := .d (.fl (.int .i64 (d.proofs.length : Int)))) rfl (og rfl (s_len rfl Try.underlying38 rfl rfl)) ?_
            refine rg_put (d := 28) (v := .d (.fl (.bool ((decide ((j : Int) < (d.proofs.length : Int))))))) rfl (og rfl (op_bin rfl rfl rfl (b_lss _ _ _ _) rfl)) ?_
            refine rg_done rfl ?_
            refine a_cond rfl (fun h15 => ?_) (fun h15 => ?_)
            · skip
              have h16 := t_dec h15
              refine a_skip ?_
              show A _ _ _ _ _ _ _
              refine a_seq ?_
              refine a_block ?_
              refine a_seq ?_
              refine a_rseq ?_
              refine rg_put (d := 31) (v := .pt 101 4) rfl (og rfl (of_eff (s_field_pt rfl Try.underlying40 rfl ti38 rfl rfl rfl) rfl)) ?_
              refine rg_put (d := 32) (v := .d (.sl 1 (List.map rS d.proofs))) rfl (og rfl (op_load_pt rfl Try.underlying38 rfl rfl rfl rfl rfl)) ?_
              refine rg_put (d := 33) (v := .d (.fl (.int .i64 (j : Int)))) rfl (og rfl (op_move rfl rfl rfl)) ?_
              refine rg_put (d := 34) (v := .el ((rS (ix d.proofs j)))) rfl (og rfl (s_index rfl Try.underlying38 ti9 rfl rfl (by omega) (row_at (by omega)) rfl)) ?_
              refine rg_put (d := 35) (v := .d (.fl (.string (ix d.proofs j)))) rfl (og rfl (op_load_el rfl Try.underlying9 rfl rfl rfl rfl)) ?_
              refine rg_put (d := 36) (v := .d (.fl (.bool ((isR (ix d.proofs j)))))) rfl (og rfl (op_call rfl Try.func23 nm23 rfl (.cons rfl (.d _) .nil) (ref_isR (ix d.proofs j) (by have := hs j (by omega); omega)) rfl)) ?_
              refine rg_put (d := 37) (v := .d (.fl (.bool ((!((isR (ix d.proofs j)))))))) rfl (og rfl (op_un rfl rfl (u_not _) rfl)) ?_
              refine rg_done rfl ?_
              refine a_cond rfl (fun h17 => ?_) (fun h17 => ?_)
              · skip
                have h18 := t_not h17
                refine a_rseq ?_
                refine rg_put (d := 2) (v := .d (.fl (.int .i64 5))) rfl (og rfl (op_assign rfl rfl rfl)) ?_
                refine rg_done rfl ?_
                refine a_ret ?_
                show ∃ ds, ResL _ _ _ ds ∧ RV.of ds = _
                refine ⟨[.fl (.int .i64 5)], (.cons (.tmp rfl (.d _)) .nil), ?_⟩
                have hpj : pj d.proofs j = 5 := by
                  unfold pj; simp only [h1, h3, h4, h6, h7, h9, h12, h15, h17, h18]; rfl
                have hin := fe_yes (by omega) hcj hpj (by decide)
                have hu : one d = 5 := by
                  unfold one; simp only [h1, h3, h4, h6, h7, h9, h12, h15, h17, h18, hin]; rfl
                rw [hu]; rfl
              · skip
                have h19 := f_not h17
                refine a_skip ?_
                show A _ _ _ _ _ _ _
                refine a_dseq (by kernel_rfl) ?_
                refine dr_put (d := 38) (v := .pt 101 4) rfl (og rfl (of_eff (s_field_pt rfl Try.underlying40 rfl ti38 rfl rfl rfl) rfl)) ?_
                refine dr_put (d := 39) (v := .d (.sl 1 (List.map rS d.proofs))) rfl (og rfl (op_load_pt rfl Try.underlying38 rfl rfl rfl rfl rfl)) ?_
                refine dr_put (d := 40) (v := .d (.fl (.int .i64 (j : Int)))) rfl (og rfl (op_move rfl rfl rfl)) ?_
                refine dr_put (d := 41) (v := .d (.sl 1 (List.map rS (((d.proofs.drop 0).take (j - 0)))))) rfl (og rfl (s_slice rfl Try.underlying38 ti9 rfl (.no _) (.so (n := j) _ rfl (by omega)) (by omega) (by omega) rfl)) ?_
                refine dr_put (d := 42) (v := .pt 101 4) rfl (og rfl (of_eff (s_field_pt rfl Try.underlying40 rfl ti38 rfl rfl rfl) rfl)) ?_
                refine dr_put (d := 43) (v := .d (.sl 1 (List.map rS d.proofs))) rfl (og rfl (op_load_pt rfl Try.underlying38 rfl rfl rfl rfl rfl)) ?_
                refine dr_put (d := 44) (v := .d (.fl (.int .i64 (j : Int)))) rfl (og rfl (op_move rfl rfl rfl)) ?_
                refine dr_put (d := 45) (v := .el ((rS (ix d.proofs j)))) rfl (og rfl (s_index rfl Try.underlying38 ti9 rfl rfl (by omega) (row_at (by omega)) rfl)) ?_
                refine dr_put (d := 46) (v := .d (.fl (.string (ix d.proofs j)))) rfl (og rfl (op_load_el rfl Try.underlying9 rfl rfl rfl rfl)) ?_
                refine dr_put (d := 47) (v := .d (.fl (.bool ((am (ix d.proofs j) (((d.proofs.drop 0).take (j - 0)))))))) rfl (og rfl (op_call rfl Try.func41 nm41 rfl (.cons rfl (.d _) (.cons rfl (.d _) .nil)) (among41 (((d.proofs.drop 0).take (j - 0))) (ix d.proofs j) (by simp only [List.length_take, List.length_drop]; omega)) rfl)) ?_
                refine dr_done rfl (by kernel_rfl) (by kernel_rfl) ?_
                refine a_cond rfl (fun h20 => ?_) (fun h20 => ?_)
                · skip
                  refine a_rseq ?_
                  refine rg_put (d := 2) (v := .d (.fl (.int .i64 9))) rfl (og rfl (op_assign rfl rfl rfl)) ?_
                  refine rg_done rfl ?_
                  refine a_ret ?_
                  show ∃ ds, ResL _ _ _ ds ∧ RV.of ds = _
                  refine ⟨[.fl (.int .i64 9)], (.cons (.tmp rfl (.d _)) .nil), ?_⟩
                  have hpj : pj d.proofs j = 9 := by
                    unfold pj; simp only [h1, h3, h4, h6, h7, h9, h12, h15, h17, h19, h20]; rfl
                  have hin := fe_yes (by omega) hcj hpj (by decide)
                  have hu : one d = 9 := by
                    unfold one; simp only [h1, h3, h4, h6, h7, h9, h12, h15, h17, h19, h20, hin]; rfl
                  rw [hu]; rfl
                · skip
                  refine a_skip ?_
                  show A _ _ _ _ _ _ _
                  refine a_region ?_
                  refine rg_put (d := 29) (v := .d (.fl (.int .i64 (j : Int)))) rfl (og rfl (op_move rfl rfl rfl)) ?_
                  refine rg_put (d := 30) (v := .d (.fl (.int .i64 (((j : Int) + 1))))) rfl (og rfl (op_bin rfl rfl rfl (fun x y w => b_add64 _ _ _ x y w (by omega)) rfl)) ?_
                  refine rg_put (d := 3) (v := .d (.fl (.int .i64 (((j : Int) + 1))))) rfl (og rfl (op_assign rfl rfl rfl)) ?_
                  refine rg_done rfl ?_
                  have hpj : pj d.proofs j = 0 := by
                    unfold pj; simp only [h1, h3, h4, h6, h7, h9, h12, h15, h17, h19, h20]; rfl
                  show ∃ i, _ ∧ _ ∧ Imp _ _ _ _ _
                  refine ⟨j + 1, ⟨by omega, fe_no (by omega) hcj hpj⟩, by omega, imp_forget rfl ⟨rfl, rfl, rfl, rfl, rfl, rfl, (by first | rfl | exact ci (by omega) | exact ci (by simp) | exact cd (by simp) | simp), trivial⟩ ⟨rfl, trivial⟩⟩
            · skip
              have h21 := f_dec h15
              refine a_exit ?_
              show A _ _ _ _ _ _ _
              refine a_rseq ?_
              refine rg_put (d := 2) (v := .d (.fl (.int .i64 0))) rfl (og rfl (op_assign rfl rfl rfl)) ?_
              refine rg_done rfl ?_
              refine a_ret ?_
              show ∃ ds, ResL _ _ _ ds ∧ RV.of ds = _
              refine ⟨[.fl (.int .i64 0)], (.cons (.tmp rfl (.d _)) .nil), ?_⟩
              have hin := hcj.trans (fe_end (by omega))
              have hu : one d = 0 := by
                unfold one; simp only [h1, h3, h4, h6, h7, h9, h12, h15, hin]; rfl
              rw [hu]; rfl
      · skip
        have h22 := t_dec h7
        refine rg_put (d := 16) (v := .d (.fl undef)) rfl (on rfl rfl rfl h7) ?_
        refine rg_put (d := 17) (v := .d (.fl undef)) rfl (on rfl rfl rfl h7) ?_
        refine rg_put (d := 18) (v := .d (.fl undef)) rfl (on rfl rfl rfl h7) ?_
        refine rg_put (d := 19) (v := .d (.fl (.bool true))) rfl (og rfl (op_pick rfl rfl (by rw [h7]; rfl) rfl)) ?_
        refine rg_done rfl ?_
        refine a_condK rfl rfl ?_
        refine a_rseq ?_
        refine rg_put (d := 2) (v := .d (.fl (.int .i64 1))) rfl (og rfl (op_assign rfl rfl rfl)) ?_
        refine rg_done rfl ?_
        refine a_ret ?_
        show ∃ ds, ResL _ _ _ ds ∧ RV.of ds = _
        refine ⟨[.fl (.int .i64 1)], (.cons (.tmp rfl (.d _)) .nil), ?_⟩
        have hu : one d = 1 := by
          unfold one; simp only [h1, h3, h4, h6, h7]; rfl
        rw [hu]; rfl
end Go.Proofs.Ytocjbombpggmeaa.Wk
