/- The law of charges. Condition: the argument reads as data. -/
import Derived.Test.YtglhonnmppclpaaDoorOp
import Derived.Test.YtglhonnmppclpaaDoorB9
set_option linter.unusedSimpArgs false
set_option linter.unusedVariables false
namespace Go.Proofs.YtglhonnmppclpaaDoor.Wk
open Go Go.RowKit Go.Proofs.YtglhonnmppclpaaDoor.Av
theorem nl_of {n : Nat} {k : Int} (h : (decide (k < (n : Int))) = false) : (n : Int) ≤ k := by
  have := of_decide_eq_false h
  omega
def ftB (n : Int) : Bool := decide (-1125899906842624 ≤ n) && decide (n ≤ 1125899906842624)
theorem ftB_t {n : Int} (h : ftB n = true) : fit n := by unfold ftB at h; unfold fit; simpa using h
theorem ftB_f {n : Int} (h : ftB n = false) : ¬ fit n := by
  unfold ftB at h; unfold fit
  intro h2
  rw [decide_eq_true h2.1, decide_eq_true h2.2] at h; cases h
structure OneP (x : Cg) : Prop where
  ln : x.lines.length ≤ 40
  key : x.key.size ≤ 200
  veh : x.veh.size ≤ 200
  sys : x.sys.size ≤ 200
  fit : fit x.cents
  li : ∀ q, q < x.lines.length → (ix x.lines q).text.size ≤ 200
structure EnP (e : En) : Prop where
  ps : e.posts.length ≤ 40
  key : e.key.size ≤ 200
  ct : ∀ u, u < e.posts.length → fit (ix e.posts u).cents
structure CsP (x : Cs) : Prop where
  id : x.id.size ≤ 200
  plate : x.plate.size ≤ 200
  key : x.key.size ≤ 200
structure SmP (s : Sa) : Prop where
  chg : s.res.chg.length ≤ 40
  acc : s.cfg.acc.length ≤ 40
  en : s.books.led.e.length ≤ 40
  cs : s.cases.length ≤ 40
  hol : s.cfg.hol.length ≤ 40
  days : s.cfg.law.days.length ≤ 40
  fees : s.cfg.law.fees.length ≤ 40
  c1 : ∀ q, q < s.res.chg.length → OneP (ix s.res.chg q)
  c2 : ∀ q, q < s.books.led.e.length → EnP (ix s.books.led.e q)
  c3 : ∀ q, q < s.cases.length → CsP (ix s.cases q)
open Classical in
noncomputable def oneB (x : Cg) : Bool := decide (OneP x)
open Classical in
noncomputable def smB (s : Sa) : Bool := decide (SmP s)
open Classical in
theorem oneB_t {x : Cg} (h : OneP x) : oneB x = true := decide_eq_true h
open Classical in
theorem oneB_f {x : Cg} (h : ¬ OneP x) : oneB x = false := decide_eq_false h
open Classical in
theorem oneB_p {x : Cg} (h : oneB x = true) : OneP x := of_decide_eq_true h
open Classical in
theorem oneB_n {x : Cg} (h : oneB x = false) : ¬ OneP x := of_decide_eq_false h
open Classical in
theorem smB_t {s : Sa} (h : SmP s) : smB s = true := decide_eq_true h
open Classical in
theorem smB_f {s : Sa} (h : ¬ SmP s) : smB s = false := decide_eq_false h
open Classical in
theorem smB_p {s : Sa} (h : smB s = true) : SmP s := of_decide_eq_true h
theorem wf64 {n : Int} (h : (Lit.int .i64 n).wf = true) : in64 n := i64_r h
theorem okC_of {x : Cg} (ho : okCg x) (h : OneP x) : OkC x := by
  obtain ⟨_, _, _, o4, o5, ⟨_, o6⟩, o7⟩ := ho
  exact ⟨h.ln, h.key, h.veh, h.sys, wf64 o4, wf64 o5, wf64 o7, h.fit, fun q hq => ⟨h.li q hq, wf64 (o6 _ (ix_mem hq)).2⟩⟩
theorem okL_of {s : Sa} (ho : okSa s) (h : SmP s) : OkL s.res.chg := by
  obtain ⟨_, _, _, _, _, hr, _⟩ := ho
  obtain ⟨_, _, _, _, ⟨_, rc⟩, _⟩ := hr
  exact ⟨h.chg, fun q hq => okC_of (rc _ (ix_mem hq)) (h.c1 q hq)⟩
theorem okQ_of {s : Sa} (ho : okSa s) (h : SmP s) : OkQ s := by
  obtain ⟨_, _, _, _, _, _, _, ⟨_, oc⟩, _⟩ := ho
  refine ⟨h.cs, fun q hq => ?_, by have := h.hol; omega⟩
  obtain ⟨_, _, _, _, _, _, a7, a8, _, _⟩ := oc _ (ix_mem hq)
  exact ⟨(h.c3 q hq).id, (h.c3 q hq).plate, (h.c3 q hq).key, wf64 a7, wf64 a8⟩
theorem okT_of {s : Sa} (ho : okSa s) (h : SmP s) : OkT s := by
  have hl := okL_of ho h
  obtain ⟨_, _, _, _, _, hr, hb, _, hc⟩ := ho
  obtain ⟨⟨r1, _⟩, ⟨r2, _⟩, ⟨r3, _⟩, ⟨r4, _⟩, _, ⟨r6, _⟩⟩ := hr
  obtain ⟨_, ⟨b2, _⟩⟩ := hb
  exact ⟨hl, ⟨h.en, fun q hq => (h.c2 q hq).ps, fun q hq => (h.c2 q hq).key, fun q hq u hu => (h.c2 q hq).ct u hu⟩, h.cs, r1, r2, r3, r4, r6, b2, wf64 hc⟩

set_option maxHeartbeats 4000000 in
set_option maxRecDepth 100000 in
theorem fits21 (n : Int) : Ctr Tryd.prog 21 [.fl (.int .i64 n)] (.d (.fl (.bool (ftB n)))) := by
  refine ctr (n := 9) (rs := #[.tmp 2]) (L := [(0, .d (.fl (.int .i64 n)))]) Tryd.func21 rfl rfl rfl rfl rfl (fun w0 U0 => ?_)
  refine a_rseq ?_
  refine rg_put (d := 2) (v := .d (.fl (.bool false))) rfl (og rfl (op_assign rfl rfl rfl)) ?_
  refine rg_done rfl ?_
  refine a_rseq ?_
  refine rg_put (d := 3) (v := .d (.fl (.int .i64 n))) rfl (og rfl (op_move rfl rfl rfl)) ?_
  refine rg_put (d := 4) (v := .d (.fl (.bool ((decide ((-1125899906842624) ≤ n)))))) rfl (og rfl (op_bin rfl rfl rfl (b_geq _ _ _ _) rfl)) ?_
  refine rg_put (d := 5) (v := .d (.fl (.bool ((decide ((-1125899906842624) ≤ n)))))) rfl (og rfl (op_move rfl rfl rfl)) ?_
  rcases fot ((decide ((-1125899906842624) ≤ n))) with h1 | h1
  · skip
    have h2 := f_dec h1
    refine rg_put (d := 6) (v := .d (.fl undef)) rfl (on rfl rfl rfl h1) ?_
    refine rg_put (d := 7) (v := .d (.fl undef)) rfl (on rfl rfl rfl h1) ?_
    refine rg_put (d := 8) (v := .d (.fl (.bool false))) rfl (og rfl (op_pick rfl rfl (by rw [h1]; rfl) rfl)) ?_
    refine rg_put (d := 2) (v := .d (.fl (.bool false))) rfl (og rfl (op_assign rfl rfl rfl)) ?_
    refine rg_done rfl ?_
    refine a_ret ?_
    show ∃ ds, ResL _ _ _ ds ∧ RV.of ds = _
    refine ⟨[.fl (.bool false)], (.cons (.tmp rfl (.d _)) .nil), ?_⟩
    have hu : ftB n = false := by unfold ftB; simp only [h1, Bool.true_and, Bool.false_and, Bool.and_true, Bool.and_false, Bool.or_true, Bool.or_false, Bool.true_or, Bool.false_or, Bool.not_true, Bool.not_false] <;> rfl
    rw [hu]; rfl
  · skip
    have h3 := t_dec h1
    refine rg_put (d := 6) (v := .d (.fl (.int .i64 n))) rfl (oy rfl rfl rfl h1 (op_move rfl rfl rfl)) ?_
    refine rg_put (d := 7) (v := .d (.fl (.bool ((decide (n ≤ 1125899906842624)))))) rfl (oy rfl rfl rfl h1 (op_bin rfl rfl rfl (b_leq _ _ _ _) rfl)) ?_
    refine rg_put (d := 8) (v := .d (.fl (.bool ((decide (n ≤ 1125899906842624)))))) rfl (og rfl (op_pick rfl rfl (by rw [h1]; rfl) rfl)) ?_
    refine rg_put (d := 2) (v := .d (.fl (.bool ((decide (n ≤ 1125899906842624)))))) rfl (og rfl (op_assign rfl rfl rfl)) ?_
    refine rg_done rfl ?_
    refine a_ret ?_
    show ∃ ds, ResL _ _ _ ds ∧ RV.of ds = _
    refine ⟨[.fl (.bool ((decide (n ≤ 1125899906842624))))], (.cons (.tmp rfl (.d _)) .nil), ?_⟩
    have hu : ftB n = (decide (n ≤ 1125899906842624)) := by unfold ftB; simp only [h1, Bool.true_and, Bool.false_and, Bool.and_true, Bool.and_false, Bool.or_true, Bool.or_false, Bool.true_or, Bool.false_or, Bool.not_true, Bool.not_false] <;> rfl
    rw [hu]; rfl
set_option maxHeartbeats 4000000 in
set_option maxRecDepth 100000 in
theorem one8 (x : Cg) (hl0 : x.lines.length ≤ 9223372036854775807) (hs : x.key.size ≤ 140737488351232 ∧ x.veh.size ≤ 140737488351232 ∧ x.sys.size ≤ 140737488351232) (ht : ∀ q, q < x.lines.length → (ix x.lines q).text.size ≤ 140737488351232) : Ctr Tryd.prog 8 [.ag (eCg x)] (.d (.fl (.bool (oneB x)))) := by
  refine ctr (n := 47) (rs := #[.tmp 2]) (L := [(0, .d (.ag (eCg x)))]) Tryd.func8 rfl rfl rfl rfl rfl (fun w0 U0 => ?_)
  refine a_rseq ?_
  refine rg_nam (d := 1) (v := .pt 101 0) (m := 101) (nw := [(101, .bx 24 (eCg x))]) rfl (og rfl (of_eff (op_box 101 rfl rfl rfl rfl) rfl)) rfl ?_
  refine rg_put (d := 2) (v := .d (.fl (.bool false))) rfl (og rfl (op_assign rfl rfl rfl)) ?_
  refine rg_done rfl ?_
  refine a_seq ?_
  refine a_rseq ?_
  refine rg_put (d := 4) (v := .pt 101 5) rfl (og rfl (of_eff (s_field_pt rfl Tryd.underlying24 rfl ti22 rfl rfl rfl) rfl)) ?_
  refine rg_put (d := 5) (v := .d (.sl 2 (List.map eLn x.lines))) rfl (og rfl (op_load_pt rfl Tryd.underlying22 rfl rfl rfl rfl rfl)) ?_
  refine rg_put (d := 6) (v := .d (.fl (.int .i64 (x.lines.length : Int)))) rfl (og rfl (s_len rfl Tryd.underlying22 rfl rfl)) ?_
  refine rg_put (d := 7) (v := .d (.fl (.bool ((decide (40 < (x.lines.length : Int))))))) rfl (og rfl (op_bin rfl rfl rfl (b_gtr _ _ _ _) rfl)) ?_
  refine rg_put (d := 8) (v := .d (.fl (.bool ((decide (40 < (x.lines.length : Int))))))) rfl (og rfl (op_move rfl rfl rfl)) ?_
  rcases fot ((decide (40 < (x.lines.length : Int)))) with h1 | h1
  · skip
    have h2 := f_dec h1
    refine rg_put (d := 9) (v := .pt 101 0) rfl (oy rfl rfl rfl h1 (of_eff (s_field_pt rfl Tryd.underlying24 rfl ti9 rfl rfl rfl) rfl)) ?_
    refine rg_put (d := 10) (v := .d (.fl (.string x.key))) rfl (oy rfl rfl rfl h1 (op_load_pt rfl Tryd.underlying9 rfl rfl rfl rfl rfl)) ?_
    refine rg_put (d := 11) (v := .d (.fl (.int .i64 (x.key.size : Int)))) rfl (oy rfl rfl rfl h1 (op_len_str rfl Tryd.underlying9 rfl rfl)) ?_
    refine rg_put (d := 12) (v := .d (.fl (.bool ((decide (200 < (x.key.size : Int))))))) rfl (oy rfl rfl rfl h1 (op_bin rfl rfl rfl (b_gtr _ _ _ _) rfl)) ?_
    refine rg_put (d := 13) (v := .d (.fl (.bool ((decide (200 < (x.key.size : Int))))))) rfl (og rfl (op_pick rfl rfl (by rw [h1]; rfl) rfl)) ?_
    refine rg_put (d := 14) (v := .d (.fl (.bool ((decide (200 < (x.key.size : Int))))))) rfl (og rfl (op_move rfl rfl rfl)) ?_
    rcases fot ((decide (200 < (x.key.size : Int)))) with h3 | h3
    · skip
      have h4 := f_dec h3
      refine rg_put (d := 15) (v := .pt 101 1) rfl (oy rfl rfl rfl h3 (of_eff (s_field_pt rfl Tryd.underlying24 rfl ti9 rfl rfl rfl) rfl)) ?_
      refine rg_put (d := 16) (v := .d (.fl (.string x.veh))) rfl (oy rfl rfl rfl h3 (op_load_pt rfl Tryd.underlying9 rfl rfl rfl rfl rfl)) ?_
      refine rg_put (d := 17) (v := .d (.fl (.int .i64 (x.veh.size : Int)))) rfl (oy rfl rfl rfl h3 (op_len_str rfl Tryd.underlying9 rfl rfl)) ?_
      refine rg_put (d := 18) (v := .d (.fl (.bool ((decide (200 < (x.veh.size : Int))))))) rfl (oy rfl rfl rfl h3 (op_bin rfl rfl rfl (b_gtr _ _ _ _) rfl)) ?_
      refine rg_put (d := 19) (v := .d (.fl (.bool ((decide (200 < (x.veh.size : Int))))))) rfl (og rfl (op_pick rfl rfl (by rw [h3]; rfl) rfl)) ?_
      refine rg_put (d := 20) (v := .d (.fl (.bool ((decide (200 < (x.veh.size : Int))))))) rfl (og rfl (op_move rfl rfl rfl)) ?_
      rcases fot ((decide (200 < (x.veh.size : Int)))) with h5 | h5
      · skip
        have h6 := f_dec h5
        refine rg_put (d := 21) (v := .pt 101 2) rfl (oy rfl rfl rfl h5 (of_eff (s_field_pt rfl Tryd.underlying24 rfl ti9 rfl rfl rfl) rfl)) ?_
        refine rg_put (d := 22) (v := .d (.fl (.string x.sys))) rfl (oy rfl rfl rfl h5 (op_load_pt rfl Tryd.underlying9 rfl rfl rfl rfl rfl)) ?_
        refine rg_put (d := 23) (v := .d (.fl (.int .i64 (x.sys.size : Int)))) rfl (oy rfl rfl rfl h5 (op_len_str rfl Tryd.underlying9 rfl rfl)) ?_
        refine rg_put (d := 24) (v := .d (.fl (.bool ((decide (200 < (x.sys.size : Int))))))) rfl (oy rfl rfl rfl h5 (op_bin rfl rfl rfl (b_gtr _ _ _ _) rfl)) ?_
        refine rg_put (d := 25) (v := .d (.fl (.bool ((decide (200 < (x.sys.size : Int))))))) rfl (og rfl (op_pick rfl rfl (by rw [h5]; rfl) rfl)) ?_
        refine rg_put (d := 26) (v := .d (.fl (.bool ((decide (200 < (x.sys.size : Int))))))) rfl (og rfl (op_move rfl rfl rfl)) ?_
        rcases fot ((decide (200 < (x.sys.size : Int)))) with h7 | h7
        · skip
          have h8 := f_dec h7
          refine rg_put (d := 27) (v := .pt 101 6) rfl (oy rfl rfl rfl h7 (of_eff (s_field_pt rfl Tryd.underlying24 rfl ti3 rfl rfl rfl) rfl)) ?_
          refine rg_put (d := 28) (v := .d (.fl (.int .i64 x.cents))) rfl (oy rfl rfl rfl h7 (op_load_pt rfl Tryd.underlying3 rfl rfl rfl rfl rfl)) ?_
          refine rg_put (d := 29) (v := .d (.fl (.bool (ftB x.cents)))) rfl (oy rfl rfl rfl h7 (op_call rfl Tryd.func21 nm21 rfl (.cons rfl (.d _) .nil) (fits21 x.cents) rfl)) ?_
          refine rg_put (d := 30) (v := .d (.fl (.bool ((!(ftB x.cents)))))) rfl (oy rfl rfl rfl h7 (op_un rfl rfl (u_not _) rfl)) ?_
          refine rg_put (d := 31) (v := .d (.fl (.bool ((!(ftB x.cents)))))) rfl (og rfl (op_pick rfl rfl (by rw [h7]; rfl) rfl)) ?_
          refine rg_done rfl ?_
          refine a_cond rfl (fun h9 => ?_) (fun h9 => ?_)
          · skip
            have h10 := t_not h9
            refine a_rseq ?_
            refine rg_put (d := 2) (v := .d (.fl (.bool false))) rfl (og rfl (op_assign rfl rfl rfl)) ?_
            refine rg_done rfl ?_
            refine a_ret ?_
            show ∃ ds, ResL _ _ _ ds ∧ RV.of ds = _
            refine ⟨[.fl (.bool false)], (.cons (.tmp rfl (.d _)) .nil), ?_⟩
            rw [oneB_f (fun h9 => ftB_f h10 h9.fit)]; rfl
          · skip
            have h11 := f_not h9
            refine a_skip ?_
            show A _ _ _ _ _ _ _
            refine a_seq ?_
            refine a_rseq ?_
            refine rg_put (d := 3) (v := .d (.fl (.int .i64 0))) rfl (og rfl (op_assign rfl rfl rfl)) ?_
            refine rg_done rfl ?_
            refine a_block ?_
            refine a_loop (ι := Nat) (fun k => SS [(0, .d (.ag (eCg x))), (1, .pt 101 0), (31, .d (.fl (.bool ((!(ftB x.cents)))))), (3, .d (.fl (.int .i64 (k : Int))))] [(101, .bx 24 (eCg x))]) (fun k => k ≤ x.lines.length ∧ ∀ q, q < k → (decide ((200 : Int) < ((ix x.lines q).text.size : Int))) = false) (fun k => x.lines.length - k) 0 (⟨by omega, fun q h => by omega⟩) (imp_forget rfl ⟨rfl, rfl, rfl, (by first | rfl | exact ci (by omega) | exact ci (by simp) | exact cd (by simp) | simp), trivial⟩ ⟨rfl, trivial⟩) (fun k hok => ?_)
            obtain ⟨hkk, hq⟩ := hok
            refine a_seq ?_
            refine a_rseq ?_
            refine rg_put (d := 32) (v := .d (.fl (.int .i64 (k : Int)))) rfl (og rfl (op_move rfl rfl rfl)) ?_
            refine rg_put (d := 33) (v := .pt 101 5) rfl (og rfl (of_eff (s_field_pt rfl Tryd.underlying24 rfl ti22 rfl rfl rfl) rfl)) ?_
            refine rg_put (d := 34) (v := .d (.sl 2 (List.map eLn x.lines))) rfl (og rfl (op_load_pt rfl Tryd.underlying22 rfl rfl rfl rfl rfl)) ?_
            refine rg_put (d := 35) (v := .d (.fl (.int .i64 (x.lines.length : Int)))) rfl (og rfl (s_len rfl Tryd.underlying22 rfl rfl)) ?_
            refine rg_put (d := 36) (v := .d (.fl (.bool ((decide ((k : Int) < (x.lines.length : Int))))))) rfl (og rfl (op_bin rfl rfl rfl (b_lss _ _ _ _) rfl)) ?_
            refine rg_done rfl ?_
            refine a_cond rfl (fun h12 => ?_) (fun h12 => ?_)
            · skip
              have h13 := t_dec h12
              refine a_skip ?_
              show A _ _ _ _ _ _ _
              refine a_seq ?_
              refine a_block ?_
              refine a_rseq ?_
              refine rg_put (d := 39) (v := .pt 101 5) rfl (og rfl (of_eff (s_field_pt rfl Tryd.underlying24 rfl ti22 rfl rfl rfl) rfl)) ?_
              refine rg_put (d := 40) (v := .d (.sl 2 (List.map eLn x.lines))) rfl (og rfl (op_load_pt rfl Tryd.underlying22 rfl rfl rfl rfl rfl)) ?_
              refine rg_put (d := 41) (v := .d (.fl (.int .i64 (k : Int)))) rfl (og rfl (op_move rfl rfl rfl)) ?_
              refine rg_put (d := 42) (v := .el ((eLn (ix x.lines k)))) rfl (og rfl (s_index rfl Tryd.underlying22 ti84 rfl rfl (by omega) (row_at (by omega)) rfl)) ?_
              refine rg_put (d := 43) (v := .el ((List.drop 0 ((eLn (ix x.lines k)))))) rfl (og rfl (of_eff (s_field_el rfl Tryd.underlying84 rfl ti9 rfl rfl rfl) rfl)) ?_
              refine rg_put (d := 44) (v := .d (.fl (.string ((ix x.lines k).text)))) rfl (og rfl (op_load_el rfl Tryd.underlying9 rfl rfl rfl rfl)) ?_
              refine rg_put (d := 45) (v := .d (.fl (.int .i64 ((((ix x.lines k).text).size : Int))))) rfl (og rfl (op_len_str rfl Tryd.underlying9 rfl rfl)) ?_
              refine rg_put (d := 46) (v := .d (.fl (.bool ((decide (200 < (((ix x.lines k).text).size : Int))))))) rfl (og rfl (op_bin rfl rfl rfl (b_gtr _ _ _ _) rfl)) ?_
              refine rg_done rfl ?_
              refine a_cond rfl (fun h14 => ?_) (fun h14 => ?_)
              · skip
                have h15 := t_dec h14
                refine a_rseq ?_
                refine rg_put (d := 2) (v := .d (.fl (.bool false))) rfl (og rfl (op_assign rfl rfl rfl)) ?_
                refine rg_done rfl ?_
                refine a_ret ?_
                show ∃ ds, ResL _ _ _ ds ∧ RV.of ds = _
                refine ⟨[.fl (.bool false)], (.cons (.tmp rfl (.d _)) .nil), ?_⟩
                rw [oneB_f (fun h9 => by have := h9.li k (by omega); have := of_decide_eq_true h14; omega)]; rfl
              · skip
                have h16 := f_dec h14
                refine a_skip ?_
                show A _ _ _ _ _ _ _
                refine a_region ?_
                refine rg_put (d := 37) (v := .d (.fl (.int .i64 (k : Int)))) rfl (og rfl (op_move rfl rfl rfl)) ?_
                refine rg_put (d := 38) (v := .d (.fl (.int .i64 (((k : Int) + 1))))) rfl (og rfl (op_bin rfl rfl rfl (fun x y w => b_add64 _ _ _ x y w (by omega)) rfl)) ?_
                refine rg_put (d := 3) (v := .d (.fl (.int .i64 (((k : Int) + 1))))) rfl (og rfl (op_assign rfl rfl rfl)) ?_
                refine rg_done rfl ?_
                have hx : (decide ((200 : Int) < ((ix x.lines k).text.size : Int))) = false := h14
                show ∃ i, _ ∧ _ ∧ Imp _ _ _ _ _
                refine ⟨k + 1, ⟨by omega, fun q h => (Nat.lt_succ_iff_lt_or_eq.1 h).elim (hq q) (fun e => by rw [e]; exact hx)⟩, by omega, imp_forget rfl ⟨rfl, rfl, rfl, (by first | rfl | exact ci (by omega) | exact ci (by simp) | exact cd (by simp) | simp), trivial⟩ ⟨rfl, trivial⟩⟩
            · skip
              have h17 := f_dec h12
              refine a_exit ?_
              show A _ _ _ _ _ _ _
              refine a_rseq ?_
              refine rg_put (d := 2) (v := .d (.fl (.bool true))) rfl (og rfl (op_assign rfl rfl rfl)) ?_
              refine rg_done rfl ?_
              refine a_ret ?_
              show ∃ ds, ResL _ _ _ ds ∧ RV.of ds = _
              refine ⟨[.fl (.bool true)], (.cons (.tmp rfl (.d _)) .nil), ?_⟩
              rw [oneB_t ⟨(by have := nl_of h1; omega), (by have := nl_of h3; omega), (by have := nl_of h5; omega), (by have := nl_of h7; omega), ftB_t h11, fun q h => by have := nl_of (hq q (by omega)); omega⟩]; rfl
        · skip
          have h18 := t_dec h7
          refine rg_put (d := 27) (v := .d (.fl undef)) rfl (on rfl rfl rfl h7) ?_
          refine rg_put (d := 28) (v := .d (.fl undef)) rfl (on rfl rfl rfl h7) ?_
          refine rg_put (d := 29) (v := .d (.fl undef)) rfl (on rfl rfl rfl h7) ?_
          refine rg_put (d := 30) (v := .d (.fl undef)) rfl (on rfl rfl rfl h7) ?_
          refine rg_put (d := 31) (v := .d (.fl (.bool true))) rfl (og rfl (op_pick rfl rfl (by rw [h7]; rfl) rfl)) ?_
          refine rg_done rfl ?_
          refine a_condK rfl rfl ?_
          refine a_rseq ?_
          refine rg_put (d := 2) (v := .d (.fl (.bool false))) rfl (og rfl (op_assign rfl rfl rfl)) ?_
          refine rg_done rfl ?_
          refine a_ret ?_
          show ∃ ds, ResL _ _ _ ds ∧ RV.of ds = _
          refine ⟨[.fl (.bool false)], (.cons (.tmp rfl (.d _)) .nil), ?_⟩
          rw [oneB_f (fun h9 => by have := h9.sys; have := of_decide_eq_true h7; omega)]; rfl
      · skip
        have h19 := t_dec h5
        refine rg_put (d := 21) (v := .d (.fl undef)) rfl (on rfl rfl rfl h5) ?_
        refine rg_put (d := 22) (v := .d (.fl undef)) rfl (on rfl rfl rfl h5) ?_
        refine rg_put (d := 23) (v := .d (.fl undef)) rfl (on rfl rfl rfl h5) ?_
        refine rg_put (d := 24) (v := .d (.fl undef)) rfl (on rfl rfl rfl h5) ?_
        refine rg_put (d := 25) (v := .d (.fl (.bool true))) rfl (og rfl (op_pick rfl rfl (by rw [h5]; rfl) rfl)) ?_
        refine rg_put (d := 26) (v := .d (.fl (.bool true))) rfl (og rfl (op_move rfl rfl rfl)) ?_
        refine rg_put (d := 27) (v := .d (.fl undef)) rfl (on rfl rfl rfl rfl) ?_
        refine rg_put (d := 28) (v := .d (.fl undef)) rfl (on rfl rfl rfl rfl) ?_
        refine rg_put (d := 29) (v := .d (.fl undef)) rfl (on rfl rfl rfl rfl) ?_
        refine rg_put (d := 30) (v := .d (.fl undef)) rfl (on rfl rfl rfl rfl) ?_
        refine rg_put (d := 31) (v := .d (.fl (.bool true))) rfl (og rfl (op_pick rfl rfl rfl rfl)) ?_
        refine rg_done rfl ?_
        refine a_condK rfl rfl ?_
        refine a_rseq ?_
        refine rg_put (d := 2) (v := .d (.fl (.bool false))) rfl (og rfl (op_assign rfl rfl rfl)) ?_
        refine rg_done rfl ?_
        refine a_ret ?_
        show ∃ ds, ResL _ _ _ ds ∧ RV.of ds = _
        refine ⟨[.fl (.bool false)], (.cons (.tmp rfl (.d _)) .nil), ?_⟩
        rw [oneB_f (fun h9 => by have := h9.veh; have := of_decide_eq_true h5; omega)]; rfl
    · skip
      have h20 := t_dec h3
      refine rg_put (d := 15) (v := .d (.fl undef)) rfl (on rfl rfl rfl h3) ?_
      refine rg_put (d := 16) (v := .d (.fl undef)) rfl (on rfl rfl rfl h3) ?_
      refine rg_put (d := 17) (v := .d (.fl undef)) rfl (on rfl rfl rfl h3) ?_
      refine rg_put (d := 18) (v := .d (.fl undef)) rfl (on rfl rfl rfl h3) ?_
      refine rg_put (d := 19) (v := .d (.fl (.bool true))) rfl (og rfl (op_pick rfl rfl (by rw [h3]; rfl) rfl)) ?_
      refine rg_put (d := 20) (v := .d (.fl (.bool true))) rfl (og rfl (op_move rfl rfl rfl)) ?_
      refine rg_put (d := 21) (v := .d (.fl undef)) rfl (on rfl rfl rfl rfl) ?_
      refine rg_put (d := 22) (v := .d (.fl undef)) rfl (on rfl rfl rfl rfl) ?_
      refine rg_put (d := 23) (v := .d (.fl undef)) rfl (on rfl rfl rfl rfl) ?_
      refine rg_put (d := 24) (v := .d (.fl undef)) rfl (on rfl rfl rfl rfl) ?_
      refine rg_put (d := 25) (v := .d (.fl (.bool true))) rfl (og rfl (op_pick rfl rfl rfl rfl)) ?_
      refine rg_put (d := 26) (v := .d (.fl (.bool true))) rfl (og rfl (op_move rfl rfl rfl)) ?_
      refine rg_put (d := 27) (v := .d (.fl undef)) rfl (on rfl rfl rfl rfl) ?_
      refine rg_put (d := 28) (v := .d (.fl undef)) rfl (on rfl rfl rfl rfl) ?_
      refine rg_put (d := 29) (v := .d (.fl undef)) rfl (on rfl rfl rfl rfl) ?_
      refine rg_put (d := 30) (v := .d (.fl undef)) rfl (on rfl rfl rfl rfl) ?_
      refine rg_put (d := 31) (v := .d (.fl (.bool true))) rfl (og rfl (op_pick rfl rfl rfl rfl)) ?_
      refine rg_done rfl ?_
      refine a_condK rfl rfl ?_
      refine a_rseq ?_
      refine rg_put (d := 2) (v := .d (.fl (.bool false))) rfl (og rfl (op_assign rfl rfl rfl)) ?_
      refine rg_done rfl ?_
      refine a_ret ?_
      show ∃ ds, ResL _ _ _ ds ∧ RV.of ds = _
      refine ⟨[.fl (.bool false)], (.cons (.tmp rfl (.d _)) .nil), ?_⟩
      rw [oneB_f (fun h9 => by have := h9.key; have := of_decide_eq_true h3; omega)]; rfl
  · skip
    have h21 := t_dec h1
    refine rg_put (d := 9) (v := .d (.fl undef)) rfl (on rfl rfl rfl h1) ?_
    refine rg_put (d := 10) (v := .d (.fl undef)) rfl (on rfl rfl rfl h1) ?_
    refine rg_put (d := 11) (v := .d (.fl undef)) rfl (on rfl rfl rfl h1) ?_
    refine rg_put (d := 12) (v := .d (.fl undef)) rfl (on rfl rfl rfl h1) ?_
    refine rg_put (d := 13) (v := .d (.fl (.bool true))) rfl (og rfl (op_pick rfl rfl (by rw [h1]; rfl) rfl)) ?_
    refine rg_put (d := 14) (v := .d (.fl (.bool true))) rfl (og rfl (op_move rfl rfl rfl)) ?_
    refine rg_put (d := 15) (v := .d (.fl undef)) rfl (on rfl rfl rfl rfl) ?_
    refine rg_put (d := 16) (v := .d (.fl undef)) rfl (on rfl rfl rfl rfl) ?_
    refine rg_put (d := 17) (v := .d (.fl undef)) rfl (on rfl rfl rfl rfl) ?_
    refine rg_put (d := 18) (v := .d (.fl undef)) rfl (on rfl rfl rfl rfl) ?_
    refine rg_put (d := 19) (v := .d (.fl (.bool true))) rfl (og rfl (op_pick rfl rfl rfl rfl)) ?_
    refine rg_put (d := 20) (v := .d (.fl (.bool true))) rfl (og rfl (op_move rfl rfl rfl)) ?_
    refine rg_put (d := 21) (v := .d (.fl undef)) rfl (on rfl rfl rfl rfl) ?_
    refine rg_put (d := 22) (v := .d (.fl undef)) rfl (on rfl rfl rfl rfl) ?_
    refine rg_put (d := 23) (v := .d (.fl undef)) rfl (on rfl rfl rfl rfl) ?_
    refine rg_put (d := 24) (v := .d (.fl undef)) rfl (on rfl rfl rfl rfl) ?_
    refine rg_put (d := 25) (v := .d (.fl (.bool true))) rfl (og rfl (op_pick rfl rfl rfl rfl)) ?_
    refine rg_put (d := 26) (v := .d (.fl (.bool true))) rfl (og rfl (op_move rfl rfl rfl)) ?_
    refine rg_put (d := 27) (v := .d (.fl undef)) rfl (on rfl rfl rfl rfl) ?_
    refine rg_put (d := 28) (v := .d (.fl undef)) rfl (on rfl rfl rfl rfl) ?_
    refine rg_put (d := 29) (v := .d (.fl undef)) rfl (on rfl rfl rfl rfl) ?_
    refine rg_put (d := 30) (v := .d (.fl undef)) rfl (on rfl rfl rfl rfl) ?_
    refine rg_put (d := 31) (v := .d (.fl (.bool true))) rfl (og rfl (op_pick rfl rfl rfl rfl)) ?_
    refine rg_done rfl ?_
    refine a_condK rfl rfl ?_
    refine a_rseq ?_
    refine rg_put (d := 2) (v := .d (.fl (.bool false))) rfl (og rfl (op_assign rfl rfl rfl)) ?_
    refine rg_done rfl ?_
    refine a_ret ?_
    show ∃ ds, ResL _ _ _ ds ∧ RV.of ds = _
    refine ⟨[.fl (.bool false)], (.cons (.tmp rfl (.d _)) .nil), ?_⟩
    rw [oneB_f (fun h9 => by have := h9.ln; have := of_decide_eq_true h1; omega)]; rfl
theorem one_ok (x : Cg) (ho : okCg x) : Ctr Tryd.prog 8 [.ag (eCg x)] (.d (.fl (.bool (oneB x)))) := one8 x ho.2.2.2.2.2.1.1 ⟨ho.1, ho.2.1, ho.2.2.1⟩ (fun q hq => (ho.2.2.2.2.2.1.2 _ (ix_mem hq)).1)

set_option maxHeartbeats 4000000 in
set_option maxRecDepth 100000 in
theorem law3 (x : Cg) (ho : okCg x) : CtrK Tryd.prog KK 3 [.ag (eCg x)] (.d (.fl (.bool true))) := by
  refine ctrK (n := 14) (rs := #[.tmp 2]) (L := [(0, .d (.ag (eCg x)))]) Tryd.func3 rfl rfl rfl rfl rfl (fun w0 U0 hG => ?_)
  refine a_rseq ?_
  refine rg_nam (d := 1) (v := .pt 101 0) (m := 101) (nw := [(101, .bx 24 (eCg x))]) rfl (og rfl (of_eff (op_box 101 rfl rfl rfl rfl) rfl)) rfl ?_
  refine rg_put (d := 2) (v := .d (.fl (.bool false))) rfl (og rfl (op_assign rfl rfl rfl)) ?_
  refine rg_done rfl ?_
  refine a_seq ?_
  refine a_rseq ?_
  refine rg_put (d := 3) (v := .d (.ag (eCg x))) rfl (og rfl (of_eff (s_load_pts rfl Tryd.underlying24 rfl ti24 rfl rfl rfl rfl) rfl)) ?_
  refine rg_put (d := 4) (v := .d (.fl (.bool (oneB x)))) rfl (og rfl (op_call rfl Tryd.func8 nm8 rfl (.cons rfl (.d _) .nil) (one_ok x ho) rfl)) ?_
  refine rg_put (d := 5) (v := .d (.fl (.bool ((!(oneB x)))))) rfl (og rfl (op_un rfl rfl (u_not _) rfl)) ?_
  refine rg_done rfl ?_
  refine a_cond rfl (fun h1 => ?_) (fun h1 => ?_)
  · skip
    have h2 := t_not h1
    refine a_rseq ?_
    refine rg_put (d := 2) (v := .d (.fl (.bool true))) rfl (og rfl (op_assign rfl rfl rfl)) ?_
    refine rg_done rfl ?_
    refine a_ret ?_
    show ∃ ds, ResL _ _ _ ds ∧ RV.of ds = _
    refine ⟨[.fl (.bool true)], (.cons (.tmp rfl (.d _)) .nil), ?_⟩
    rfl
  · skip
    have h3 := f_not h1
    have hxk := okC_of ho (oneB_p h3)
    refine a_skip ?_
    show A _ _ _ _ _ _ _
    refine a_dseq (by kernel_rfl) ?_
    refine dr_put (d := 6) (v := .d (.ag (eCg x))) rfl (og rfl (of_eff (s_load_pts rfl Tryd.underlying24 rfl ti24 rfl rfl rfl rfl) rfl)) ?_
    refine dr_put (d := 7) (v := .d (.fl (.string (chg x)))) rfl (og rfl (op_callK kkst hG rfl Tryd.func9 nm9 rfl (.cons rfl (.d _) .nil) (chg11 x hxk) rfl)) ?_
    refine dr_put (d := 8) (v := .d (.ag (eCg x))) rfl (og rfl (of_eff (s_load_pts rfl Tryd.underlying24 rfl ti24 rfl rfl rfl rfl) rfl)) ?_
    refine dr_put (d := 9) (v := .d (.fl (.string (chg x)))) rfl (og rfl (op_call rfl Tryd.func10 nm10 rfl (.cons rfl (.d _) .nil) (chg12 x hxk) rfl)) ?_
    refine dr_put (d := 10) (v := .d (.fl (.bool ((sEq (chg x) (chg x)))))) rfl (og rfl (op_bin rfl rfl rfl (b_seq _ _ _) rfl)) ?_
    refine dr_put (d := 11) (v := .d (.fl (.bool ((sEq (chg x) (chg x)))))) rfl (og rfl (op_move rfl rfl rfl)) ?_
    refine dr_put (d := 12) (v := .d (.fl (.bool true))) rfl (oy rfl rfl rfl (eq_self_s _) (op_callK kkst hG rfl Tryd.func11 nm11 rfl .nil alive11 rfl)) ?_
    refine dr_put (d := 13) (v := .d (.fl (.bool true))) rfl (og rfl (op_pick rfl rfl (by rw [(eq_self_s _)]; rfl) rfl)) ?_
    refine dr_put (d := 2) (v := .d (.fl (.bool true))) rfl (og rfl (op_assign rfl rfl rfl)) ?_
    refine dr_done rfl (by kernel_rfl) (by kernel_rfl) ?_
    refine a_ret ?_
    show ∃ ds, ResL _ _ _ ds ∧ RV.of ds = _
    refine ⟨[.fl (.bool true)], (.cons (.tmp rfl (.d _)) .nil), ?_⟩
    rfl
end Go.Proofs.YtglhonnmppclpaaDoor.Wk
