/- The laws. Condition: the arguments read as data. -/
import Derived.Test.YtgfbgkoifcacdaaDoorOp
import Derived.Test.YtgfbgkoifcacdaaDoorB9
set_option linter.unusedSimpArgs false
set_option linter.unusedVariables false
namespace Go.Proofs.YtgfbgkoifcacdaaDoor.Wk
open Go Go.RowKit Go.Proofs.YtgfbgkoifcacdaaDoor.Av
def lnB (s : Sa) : Bool := !(decide ((120 : Int) < (s.seen.length : Int))) && !(decide ((120 : Int) < (s.rej.length : Int))) && !(decide ((120 : Int) < (s.res.pass.length : Int))) && !(decide ((120 : Int) < (s.res.rej.length : Int))) && !(decide ((120 : Int) < (s.res.trips.length : Int))) && !(decide ((120 : Int) < (s.res.stays.length : Int))) && !(decide ((120 : Int) < (s.res.chg.length : Int))) && !(decide ((120 : Int) < (s.res.exc.length : Int))) && !(decide ((120 : Int) < (s.books.done.length : Int))) && !(decide ((30 : Int) < (s.cfg.acc.length : Int)))
def bd (s : Sa) : Bool := lnB s && ((s.res.pass.all fun p : Pg => !(decide ((40 : Int) < (p.srcs.length : Int)))) && ((s.res.trips.all fun p : Tp => !(decide ((40 : Int) < (p.stops.length : Int)))) && ((s.res.chg.all fun p : Cg => !(decide ((40 : Int) < (p.lines.length : Int)))) && ((s.cfg.acc.all fun p : Ac => !(decide ((80 : Int) < (p.owned.length : Int))))))))
theorem all_ix {α : Type} [Inhabited α] {l : List α} {P : α → Prop} (h : ∀ a ∈ l, P a) : ∀ q, q < l.length → P (ix l q) := fun q hq => h _ (ix_mem hq)
theorem nl_of {n : Nat} {k : Int} (h : (!(decide (k < (n : Int)))) = true) : (n : Int) ≤ k := by
  have := of_decide_eq_false (t_not h)
  omega
theorem wf64 {n : Int} (h : (Lit.int .i64 n).wf = true) : in64 n := i64_r h
theorem okS_of {x : So} (h : okSo x) : okS x := ⟨Nat.le_trans h.1 (by decide), wf64 h.2⟩
theorem bd_ok {s : Sa} (ho : okSa s) (h : bd s = true) : okSt s := by
  unfold bd lnB at h
  simp only [Bool.and_eq_true] at h
  obtain ⟨⟨⟨⟨⟨⟨⟨⟨⟨⟨h1, h2⟩, h3⟩, h4⟩, h5⟩, h6⟩, h7⟩, h8⟩, h9⟩, h10⟩, hp, ht, hc, ha⟩ := h
  have h1 := nl_of h1
  have h2 := nl_of h2
  have h3 := nl_of h3
  have h4 := nl_of h4
  have h5 := nl_of h5
  have h6 := nl_of h6
  have h7 := nl_of h7
  have h8 := nl_of h8
  have h9 := nl_of h9
  have h10 := nl_of h10
  rw [List.all_eq_true] at hp ht hc ha
  obtain ⟨_, _, _, _, _, hr, _⟩ := ho
  obtain ⟨⟨_, rp⟩, _, ⟨_, rt⟩, ⟨_, ry⟩, _, _⟩ := hr
  refine ⟨by omega, by omega, ⟨by omega, by omega, by omega, by omega, by omega, fun q hq => ⟨?_, ?_⟩, fun q hq => ?_, fun q hq => ?_, by omega, fun q hq => ⟨?_, fun u hu => ?_⟩⟩, by omega, fun q hq => ?_, by omega⟩
  · have := nl_of (ht _ (ix_mem hq)); omega
  · exact Nat.le_trans (rt _ (ix_mem hq)).1 (by decide)
  · exact Nat.le_trans (ry _ (ix_mem hq)).1 (by decide)
  · have := nl_of (hc _ (ix_mem hq)); omega
  · have := nl_of (hp _ (ix_mem hq)); omega
  · exact okS_of ((rp _ (ix_mem hq)).2.2.2.2.2.2.2.2 _ (ix_mem hu))
  · have := nl_of (ha _ (ix_mem hq)); omega

set_option maxHeartbeats 4000000 in
set_option maxRecDepth 100000 in
theorem great7 (s : Sa) : Ctr Tryd.prog 7 [.ag (eSa s)] (.d (.fl (.bool (!(bd s))))) := by
  refine ctr (n := 123) (rs := #[.tmp 2]) (L := [(0, .d (.ag (eSa s)))]) Tryd.func7 rfl rfl rfl rfl rfl (fun w0 U0 => ?_)
  refine a_rseq ?_
  refine rg_nam (d := 1) (v := .pt 101 0) (m := 101) (nw := [(101, .bx 64 (eSa s))]) rfl (og rfl (of_eff (op_box 101 rfl rfl rfl rfl) rfl)) rfl ?_
  refine rg_put (d := 2) (v := .d (.fl (.bool false))) rfl (og rfl (op_assign rfl rfl rfl)) ?_
  refine rg_done rfl ?_
  refine a_rseq ?_
  refine rg_put (d := 12) (v := .pt 101 29) rfl (og rfl (of_eff (s_field_pt rfl Tryd.underlying64 rfl ti56 rfl rfl rfl) rfl)) ?_
  refine rg_put (d := 13) (v := .d (.ag (eRs s.res))) rfl (og rfl (of_eff (s_load_pts rfl Tryd.underlying56 rfl ti56 rfl rfl rfl rfl) rfl)) ?_
  refine rg_nam (d := 3) (v := .pt 102 0) (m := 102) (nw := [(102, .bx 56 [.fl (.slice none 0 0), .fl (.slice none 0 0), .fl (.slice none 0 0), .fl (.slice none 0 0), .fl (.slice none 0 0), .fl (.slice none 0 0)])]) rfl (og rfl (of_eff (s_alloc 102 rfl ti56 (by kernel_rfl) rfl) rfl)) rfl ?_
  refine rg_sto (nw := [(102, .bx 56 (eRs s.res))]) rfl (og rfl (of_eff (s_store rfl rfl ti56 rfl rfl rfl rfl rfl rfl) rfl)) ?_
  refine rg_done rfl ?_
  refine a_seq ?_
  refine a_rseq ?_
  refine rg_put (d := 14) (v := .pt 101 25) rfl (og rfl (of_eff (s_field_pt rfl Tryd.underlying64 rfl ti47 rfl rfl rfl) rfl)) ?_
  refine rg_put (d := 15) (v := .d (.sl 11 (List.map eSn s.seen))) rfl (og rfl (op_load_pt rfl Tryd.underlying47 rfl rfl rfl rfl rfl)) ?_
  refine rg_put (d := 16) (v := .d (.fl (.int .i64 (s.seen.length : Int)))) rfl (og rfl (s_len rfl Tryd.underlying47 rfl rfl)) ?_
  refine rg_put (d := 17) (v := .d (.fl (.bool ((decide (120 < (s.seen.length : Int))))))) rfl (og rfl (op_bin rfl rfl rfl (b_gtr _ _ _ _) rfl)) ?_
  refine rg_put (d := 18) (v := .d (.fl (.bool ((decide (120 < (s.seen.length : Int))))))) rfl (og rfl (op_move rfl rfl rfl)) ?_
  rcases fot ((decide (120 < (s.seen.length : Int)))) with h1 | h1
  · skip
    have h2 := f_dec h1
    refine rg_put (d := 19) (v := .pt 101 26) rfl (oy rfl rfl rfl h1 (of_eff (s_field_pt rfl Tryd.underlying64 rfl ti48 rfl rfl rfl) rfl)) ?_
    refine rg_put (d := 20) (v := .d (.sl 8 (List.map eRj s.rej))) rfl (oy rfl rfl rfl h1 (op_load_pt rfl Tryd.underlying48 rfl rfl rfl rfl rfl)) ?_
    refine rg_put (d := 21) (v := .d (.fl (.int .i64 (s.rej.length : Int)))) rfl (oy rfl rfl rfl h1 (s_len rfl Tryd.underlying48 rfl rfl)) ?_
    refine rg_put (d := 22) (v := .d (.fl (.bool ((decide (120 < (s.rej.length : Int))))))) rfl (oy rfl rfl rfl h1 (op_bin rfl rfl rfl (b_gtr _ _ _ _) rfl)) ?_
    refine rg_put (d := 23) (v := .d (.fl (.bool ((decide (120 < (s.rej.length : Int))))))) rfl (og rfl (op_pick rfl rfl (by rw [h1]; rfl) rfl)) ?_
    refine rg_put (d := 24) (v := .d (.fl (.bool ((decide (120 < (s.rej.length : Int))))))) rfl (og rfl (op_move rfl rfl rfl)) ?_
    rcases fot ((decide (120 < (s.rej.length : Int)))) with h3 | h3
    · skip
      have h4 := f_dec h3
      refine rg_put (d := 25) (v := .pt 102 0) rfl (oy rfl rfl rfl h3 (of_eff (s_field_pt rfl Tryd.underlying56 rfl ti50 rfl rfl rfl) rfl)) ?_
      refine rg_put (d := 26) (v := .d (.sl 8 (List.map ePg s.res.pass))) rfl (oy rfl rfl rfl h3 (op_load_pt rfl Tryd.underlying50 rfl rfl rfl rfl rfl)) ?_
      refine rg_put (d := 27) (v := .d (.fl (.int .i64 (s.res.pass.length : Int)))) rfl (oy rfl rfl rfl h3 (s_len rfl Tryd.underlying50 rfl rfl)) ?_
      refine rg_put (d := 28) (v := .d (.fl (.bool ((decide (120 < (s.res.pass.length : Int))))))) rfl (oy rfl rfl rfl h3 (op_bin rfl rfl rfl (b_gtr _ _ _ _) rfl)) ?_
      refine rg_put (d := 29) (v := .d (.fl (.bool ((decide (120 < (s.res.pass.length : Int))))))) rfl (og rfl (op_pick rfl rfl (by rw [h3]; rfl) rfl)) ?_
      refine rg_put (d := 30) (v := .d (.fl (.bool ((decide (120 < (s.res.pass.length : Int))))))) rfl (og rfl (op_move rfl rfl rfl)) ?_
      rcases fot ((decide (120 < (s.res.pass.length : Int)))) with h5 | h5
      · skip
        have h6 := f_dec h5
        refine rg_put (d := 31) (v := .pt 102 1) rfl (oy rfl rfl rfl h5 (of_eff (s_field_pt rfl Tryd.underlying56 rfl ti48 rfl rfl rfl) rfl)) ?_
        refine rg_put (d := 32) (v := .d (.sl 8 (List.map eRj s.res.rej))) rfl (oy rfl rfl rfl h5 (op_load_pt rfl Tryd.underlying48 rfl rfl rfl rfl rfl)) ?_
        refine rg_put (d := 33) (v := .d (.fl (.int .i64 (s.res.rej.length : Int)))) rfl (oy rfl rfl rfl h5 (s_len rfl Tryd.underlying48 rfl rfl)) ?_
        refine rg_put (d := 34) (v := .d (.fl (.bool ((decide (120 < (s.res.rej.length : Int))))))) rfl (oy rfl rfl rfl h5 (op_bin rfl rfl rfl (b_gtr _ _ _ _) rfl)) ?_
        refine rg_put (d := 35) (v := .d (.fl (.bool ((decide (120 < (s.res.rej.length : Int))))))) rfl (og rfl (op_pick rfl rfl (by rw [h5]; rfl) rfl)) ?_
        refine rg_put (d := 36) (v := .d (.fl (.bool ((decide (120 < (s.res.rej.length : Int))))))) rfl (og rfl (op_move rfl rfl rfl)) ?_
        rcases fot ((decide (120 < (s.res.rej.length : Int)))) with h7 | h7
        · skip
          have h8 := f_dec h7
          refine rg_put (d := 37) (v := .pt 102 2) rfl (oy rfl rfl rfl h7 (of_eff (s_field_pt rfl Tryd.underlying56 rfl ti51 rfl rfl rfl) rfl)) ?_
          refine rg_put (d := 38) (v := .d (.sl 5 (List.map eTp s.res.trips))) rfl (oy rfl rfl rfl h7 (op_load_pt rfl Tryd.underlying51 rfl rfl rfl rfl rfl)) ?_
          refine rg_put (d := 39) (v := .d (.fl (.int .i64 (s.res.trips.length : Int)))) rfl (oy rfl rfl rfl h7 (s_len rfl Tryd.underlying51 rfl rfl)) ?_
          refine rg_put (d := 40) (v := .d (.fl (.bool ((decide (120 < (s.res.trips.length : Int))))))) rfl (oy rfl rfl rfl h7 (op_bin rfl rfl rfl (b_gtr _ _ _ _) rfl)) ?_
          refine rg_put (d := 41) (v := .d (.fl (.bool ((decide (120 < (s.res.trips.length : Int))))))) rfl (og rfl (op_pick rfl rfl (by rw [h7]; rfl) rfl)) ?_
          refine rg_put (d := 42) (v := .d (.fl (.bool ((decide (120 < (s.res.trips.length : Int))))))) rfl (og rfl (op_move rfl rfl rfl)) ?_
          rcases fot ((decide (120 < (s.res.trips.length : Int)))) with h9 | h9
          · skip
            have h10 := f_dec h9
            refine rg_put (d := 43) (v := .pt 102 3) rfl (oy rfl rfl rfl h9 (of_eff (s_field_pt rfl Tryd.underlying56 rfl ti52 rfl rfl rfl) rfl)) ?_
            refine rg_put (d := 44) (v := .d (.sl 5 (List.map eSy s.res.stays))) rfl (oy rfl rfl rfl h9 (op_load_pt rfl Tryd.underlying52 rfl rfl rfl rfl rfl)) ?_
            refine rg_put (d := 45) (v := .d (.fl (.int .i64 (s.res.stays.length : Int)))) rfl (oy rfl rfl rfl h9 (s_len rfl Tryd.underlying52 rfl rfl)) ?_
            refine rg_put (d := 46) (v := .d (.fl (.bool ((decide (120 < (s.res.stays.length : Int))))))) rfl (oy rfl rfl rfl h9 (op_bin rfl rfl rfl (b_gtr _ _ _ _) rfl)) ?_
            refine rg_put (d := 47) (v := .d (.fl (.bool ((decide (120 < (s.res.stays.length : Int))))))) rfl (og rfl (op_pick rfl rfl (by rw [h9]; rfl) rfl)) ?_
            refine rg_put (d := 48) (v := .d (.fl (.bool ((decide (120 < (s.res.stays.length : Int))))))) rfl (og rfl (op_move rfl rfl rfl)) ?_
            rcases fot ((decide (120 < (s.res.stays.length : Int)))) with h11 | h11
            · skip
              have h12 := f_dec h11
              refine rg_put (d := 49) (v := .pt 102 4) rfl (oy rfl rfl rfl h11 (of_eff (s_field_pt rfl Tryd.underlying56 rfl ti53 rfl rfl rfl) rfl)) ?_
              refine rg_put (d := 50) (v := .d (.sl 7 (List.map eCg s.res.chg))) rfl (oy rfl rfl rfl h11 (op_load_pt rfl Tryd.underlying53 rfl rfl rfl rfl rfl)) ?_
              refine rg_put (d := 51) (v := .d (.fl (.int .i64 (s.res.chg.length : Int)))) rfl (oy rfl rfl rfl h11 (s_len rfl Tryd.underlying53 rfl rfl)) ?_
              refine rg_put (d := 52) (v := .d (.fl (.bool ((decide (120 < (s.res.chg.length : Int))))))) rfl (oy rfl rfl rfl h11 (op_bin rfl rfl rfl (b_gtr _ _ _ _) rfl)) ?_
              refine rg_put (d := 53) (v := .d (.fl (.bool ((decide (120 < (s.res.chg.length : Int))))))) rfl (og rfl (op_pick rfl rfl (by rw [h11]; rfl) rfl)) ?_
              refine rg_put (d := 54) (v := .d (.fl (.bool ((decide (120 < (s.res.chg.length : Int))))))) rfl (og rfl (op_move rfl rfl rfl)) ?_
              rcases fot ((decide (120 < (s.res.chg.length : Int)))) with h13 | h13
              · skip
                have h14 := f_dec h13
                refine rg_put (d := 55) (v := .pt 102 5) rfl (oy rfl rfl rfl h13 (of_eff (s_field_pt rfl Tryd.underlying56 rfl ti54 rfl rfl rfl) rfl)) ?_
                refine rg_put (d := 56) (v := .d (.sl 2 (List.map eEc s.res.exc))) rfl (oy rfl rfl rfl h13 (op_load_pt rfl Tryd.underlying54 rfl rfl rfl rfl rfl)) ?_
                refine rg_put (d := 57) (v := .d (.fl (.int .i64 (s.res.exc.length : Int)))) rfl (oy rfl rfl rfl h13 (s_len rfl Tryd.underlying54 rfl rfl)) ?_
                refine rg_put (d := 58) (v := .d (.fl (.bool ((decide (120 < (s.res.exc.length : Int))))))) rfl (oy rfl rfl rfl h13 (op_bin rfl rfl rfl (b_gtr _ _ _ _) rfl)) ?_
                refine rg_put (d := 59) (v := .d (.fl (.bool ((decide (120 < (s.res.exc.length : Int))))))) rfl (og rfl (op_pick rfl rfl (by rw [h13]; rfl) rfl)) ?_
                refine rg_put (d := 60) (v := .d (.fl (.bool ((decide (120 < (s.res.exc.length : Int))))))) rfl (og rfl (op_move rfl rfl rfl)) ?_
                rcases fot ((decide (120 < (s.res.exc.length : Int)))) with h15 | h15
                · skip
                  have h16 := f_dec h15
                  refine rg_put (d := 61) (v := .pt 101 35) rfl (oy rfl rfl rfl h15 (of_eff (s_field_pt rfl Tryd.underlying64 rfl ti61 rfl rfl rfl) rfl)) ?_
                  refine rg_put (d := 62) (v := .pt 101 36) rfl (oy rfl rfl rfl h15 (of_eff (s_field_pt rfl Tryd.underlying61 rfl ti53 rfl rfl rfl) rfl)) ?_
                  refine rg_put (d := 63) (v := .d (.sl 7 (List.map eCg s.books.done))) rfl (oy rfl rfl rfl h15 (op_load_pt rfl Tryd.underlying53 rfl rfl rfl rfl rfl)) ?_
                  refine rg_put (d := 64) (v := .d (.fl (.int .i64 (s.books.done.length : Int)))) rfl (oy rfl rfl rfl h15 (s_len rfl Tryd.underlying53 rfl rfl)) ?_
                  refine rg_put (d := 65) (v := .d (.fl (.bool ((decide (120 < (s.books.done.length : Int))))))) rfl (oy rfl rfl rfl h15 (op_bin rfl rfl rfl (b_gtr _ _ _ _) rfl)) ?_
                  refine rg_put (d := 66) (v := .d (.fl (.bool ((decide (120 < (s.books.done.length : Int))))))) rfl (og rfl (op_pick rfl rfl (by rw [h15]; rfl) rfl)) ?_
                  refine rg_put (d := 67) (v := .d (.fl (.bool ((decide (120 < (s.books.done.length : Int))))))) rfl (og rfl (op_move rfl rfl rfl)) ?_
                  rcases fot ((decide (120 < (s.books.done.length : Int)))) with h17 | h17
                  · skip
                    have h18 := f_dec h17
                    refine rg_put (d := 68) (v := .pt 101 0) rfl (oy rfl rfl rfl h17 (of_eff (s_field_pt rfl Tryd.underlying64 rfl ti46 rfl rfl rfl) rfl)) ?_
                    refine rg_put (d := 69) (v := .pt 101 17) rfl (oy rfl rfl rfl h17 (of_eff (s_field_pt rfl Tryd.underlying46 rfl ti40 rfl rfl rfl) rfl)) ?_
                    refine rg_put (d := 70) (v := .d (.sl 9 (List.map eAc s.cfg.acc))) rfl (oy rfl rfl rfl h17 (op_load_pt rfl Tryd.underlying40 rfl rfl rfl rfl rfl)) ?_
                    refine rg_put (d := 71) (v := .d (.fl (.int .i64 (s.cfg.acc.length : Int)))) rfl (oy rfl rfl rfl h17 (s_len rfl Tryd.underlying40 rfl rfl)) ?_
                    refine rg_put (d := 72) (v := .d (.fl (.bool ((decide (30 < (s.cfg.acc.length : Int))))))) rfl (oy rfl rfl rfl h17 (op_bin rfl rfl rfl (b_gtr _ _ _ _) rfl)) ?_
                    refine rg_put (d := 73) (v := .d (.fl (.bool ((decide (30 < (s.cfg.acc.length : Int))))))) rfl (og rfl (op_pick rfl rfl (by rw [h17]; rfl) rfl)) ?_
                    refine rg_done rfl ?_
                    refine a_cond rfl (fun h19 => ?_) (fun h19 => ?_)
                    · skip
                      have h20 := t_dec h19
                      refine a_rseq ?_
                      refine rg_put (d := 2) (v := .d (.fl (.bool true))) rfl (og rfl (op_assign rfl rfl rfl)) ?_
                      refine rg_done rfl ?_
                      refine a_ret ?_
                      show ∃ ds, ResL _ _ _ ds ∧ RV.of ds = _
                      refine ⟨[.fl (.bool true)], (.cons (.tmp rfl (.d _)) .nil), ?_⟩
                      have hu : bd s = false := by unfold bd lnB; simp only [h1, h3, h5, h7, h9, h11, h13, h15, h17, h19, Bool.true_and, Bool.false_and, Bool.and_true, Bool.and_false, Bool.or_true, Bool.or_false, Bool.true_or, Bool.false_or, Bool.not_true, Bool.not_false] <;> rfl
                      rw [hu]; rfl
                    · skip
                      have h21 := f_dec h19
                      refine a_skip ?_
                      show A _ _ _ _ _ _ _
                      refine a_seq ?_
                      refine a_rseq ?_
                      refine rg_put (d := 74) (v := .pt 102 0) rfl (og rfl (of_eff (s_field_pt rfl Tryd.underlying56 rfl ti50 rfl rfl rfl) rfl)) ?_
                      refine rg_put (d := 75) (v := .d (.sl 8 (List.map ePg s.res.pass))) rfl (og rfl (op_load_pt rfl Tryd.underlying50 rfl rfl rfl rfl rfl)) ?_
                      refine rg_put (d := 76) (v := .d (.fl (.int .i64 (s.res.pass.length : Int)))) rfl (og rfl (s_len rfl Tryd.underlying50 rfl rfl)) ?_
                      refine rg_put (d := 77) (v := .d (.fl (.int .i64 0))) rfl (og rfl (op_move rfl rfl rfl)) ?_
                      refine rg_done rfl ?_
                      refine a_block ?_
                      refine a_loop (ι := Nat) (fun k => SS [(0, .d (.ag (eSa s))), (1, .pt 101 0), (3, .pt 102 0), (73, .d (.fl (.bool ((decide (30 < (s.cfg.acc.length : Int))))))), (75, .d (.sl 8 (List.map ePg s.res.pass))), (76, .d (.fl (.int .i64 (s.res.pass.length : Int)))), (77, .d (.fl (.int .i64 (k : Int))))] [(101, .bx 64 (eSa s)), (102, .bx 56 (eRs s.res))]) (fun k => k ≤ s.res.pass.length ∧ ∀ q, q < k → (!(decide ((40 : Int) < ((ix s.res.pass q).srcs.length : Int)))) = true) (fun k => s.res.pass.length - k) 0 (⟨by omega, fun q h => by omega⟩) (imp_forget rfl ⟨rfl, rfl, rfl, rfl, rfl, rfl, (by first | rfl | exact ci (by omega) | exact ci (by simp) | exact cd (by simp) | simp), trivial⟩ ⟨rfl, rfl, trivial⟩) (fun k hok => ?_)
                      obtain ⟨hkk, hq⟩ := hok
                      refine a_rseq ?_
                      refine rg_put (d := 78) (v := .d (.fl (.bool ((decide ((k : Int) < (s.res.pass.length : Int))))))) rfl (og rfl (op_bin rfl rfl rfl (b_lss _ _ _ _) rfl)) ?_
                      refine rg_done rfl ?_
                      refine a_seq ?_
                      refine a_cond rfl (fun h22 => ?_) (fun h22 => ?_)
                      · skip
                        have h23 := t_dec h22
                        refine a_skip ?_
                        show A _ _ _ _ _ _ _
                        refine a_seq ?_
                        refine a_block ?_
                        refine a_rseq ?_
                        refine rg_put (d := 79) (v := .el ((ePg (ix s.res.pass k)))) rfl (og rfl (s_index rfl Tryd.underlying50 ti87 rfl rfl (by omega) (row_at (by omega)) rfl)) ?_
                        refine rg_put (d := 80) (v := .d (.ag (ePg (ix s.res.pass k)))) rfl (og rfl (of_eff (s_load_els rfl Tryd.underlying87 rfl ti87 rfl rfl rfl) rfl)) ?_
                        refine rg_nam (d := 5) (v := .pt 103 0) (m := 103) (nw := [(103, .bx 87 ([.fl (.string (⟨#[]⟩)), .fl (.string (⟨#[]⟩)), .fl (.int .i64 0), .fl (.string (⟨#[]⟩)), .fl (.string (⟨#[]⟩)), .fl (.int .i64 0), .fl (.int .i64 0), .fl (.slice none 0 0)]))]) rfl (og rfl (of_eff (s_alloc 103 rfl ti87 (by kernel_rfl) rfl) rfl)) rfl ?_
                        refine rg_sto (nw := [(103, .bx 87 ((ePg (ix s.res.pass k))))]) rfl (og rfl (of_eff (s_store rfl rfl ti87 rfl rfl rfl rfl rfl rfl) rfl)) ?_
                        refine rg_done rfl ?_
                        refine a_rseq ?_
                        refine rg_put (d := 81) (v := .pt 103 7) rfl (og rfl (of_eff (s_field_pt rfl Tryd.underlying87 rfl ti85 rfl rfl rfl) rfl)) ?_
                        refine rg_put (d := 82) (v := .d (.sl 2 (List.map eSo ((ix s.res.pass k).srcs)))) rfl (og rfl (op_load_pt rfl Tryd.underlying85 rfl rfl rfl rfl rfl)) ?_
                        refine rg_put (d := 83) (v := .d (.fl (.int .i64 ((((ix s.res.pass k).srcs).length : Int))))) rfl (og rfl (s_len rfl Tryd.underlying85 rfl rfl)) ?_
                        refine rg_put (d := 84) (v := .d (.fl (.bool ((decide (40 < (((ix s.res.pass k).srcs).length : Int))))))) rfl (og rfl (op_bin rfl rfl rfl (b_gtr _ _ _ _) rfl)) ?_
                        refine rg_done rfl ?_
                        refine a_cond rfl (fun h24 => ?_) (fun h24 => ?_)
                        · skip
                          have h25 := t_dec h24
                          refine a_rseq ?_
                          refine rg_put (d := 2) (v := .d (.fl (.bool true))) rfl (og rfl (op_assign rfl rfl rfl)) ?_
                          refine rg_done rfl ?_
                          refine a_ret ?_
                          show ∃ ds, ResL _ _ _ ds ∧ RV.of ds = _
                          refine ⟨[.fl (.bool true)], (.cons (.tmp rfl (.d _)) .nil), ?_⟩
                          have ga : (s.res.pass.all fun p : Pg => !(decide ((40 : Int) < (p.srcs.length : Int)))) = false := all_no (k := k) (by omega) (by rw [h24]; rfl)
                          have hu : bd s = false := by unfold bd; rw [ga]; simp only [Bool.and_false, Bool.false_and]
                          rw [hu]; rfl
                        · skip
                          have h26 := f_dec h24
                          refine a_skip ?_
                          show A _ _ _ _ _ _ _
                          refine a_region ?_
                          refine rg_put (d := 85) (v := .d (.fl (.int .i64 (((k : Int) + 1))))) rfl (og rfl (op_bin rfl rfl rfl (fun x y w => b_add64 _ _ _ x y w (by omega)) rfl)) ?_
                          refine rg_put (d := 77) (v := .d (.fl (.int .i64 (((k : Int) + 1))))) rfl (og rfl (op_move rfl rfl rfl)) ?_
                          refine rg_done rfl ?_
                          have hx : (!(decide ((40 : Int) < ((ix s.res.pass k).srcs.length : Int)))) = true := by rw [h24]; rfl
                          show ∃ i, _ ∧ _ ∧ Imp _ _ _ _ _
                          refine ⟨k + 1, ⟨by omega, fun q h => (Nat.lt_succ_iff_lt_or_eq.1 h).elim (hq q) (fun e => by rw [e]; exact hx)⟩, by omega, imp_forget rfl ⟨rfl, rfl, rfl, rfl, rfl, rfl, (by first | rfl | exact ci (by omega) | exact ci (by simp) | exact cd (by simp) | simp), trivial⟩ ⟨rfl, rfl, trivial⟩⟩
                      · skip
                        have h27 := f_dec h22
                        refine a_exit ?_
                        show A _ _ _ _ _ _ _
                        refine a_seq ?_
                        refine a_rseq ?_
                        refine rg_put (d := 86) (v := .pt 102 2) rfl (og rfl (of_eff (s_field_pt rfl Tryd.underlying56 rfl ti51 rfl rfl rfl) rfl)) ?_
                        refine rg_put (d := 87) (v := .d (.sl 5 (List.map eTp s.res.trips))) rfl (og rfl (op_load_pt rfl Tryd.underlying51 rfl rfl rfl rfl rfl)) ?_
                        refine rg_put (d := 88) (v := .d (.fl (.int .i64 (s.res.trips.length : Int)))) rfl (og rfl (s_len rfl Tryd.underlying51 rfl rfl)) ?_
                        refine rg_put (d := 89) (v := .d (.fl (.int .i64 0))) rfl (og rfl (op_move rfl rfl rfl)) ?_
                        refine rg_done rfl ?_
                        refine a_block ?_
                        refine a_loop (ι := Nat) (fun j => SS [(0, .d (.ag (eSa s))), (1, .pt 101 0), (3, .pt 102 0), (73, .d (.fl (.bool ((decide (30 < (s.cfg.acc.length : Int))))))), (75, .d (.sl 8 (List.map ePg s.res.pass))), (76, .d (.fl (.int .i64 (s.res.pass.length : Int)))), (77, .d (.fl (.int .i64 (k : Int)))), (78, .d (.fl (.bool ((decide ((k : Int) < (s.res.pass.length : Int))))))), (87, .d (.sl 5 (List.map eTp s.res.trips))), (88, .d (.fl (.int .i64 (s.res.trips.length : Int)))), (89, .d (.fl (.int .i64 (j : Int))))] [(101, .bx 64 (eSa s)), (102, .bx 56 (eRs s.res))]) (fun j => j ≤ s.res.trips.length ∧ ∀ q, q < j → (!(decide ((40 : Int) < ((ix s.res.trips q).stops.length : Int)))) = true) (fun j => s.res.trips.length - j) 0 (⟨by omega, fun q h => by omega⟩) (imp_forget rfl ⟨rfl, rfl, rfl, rfl, rfl, rfl, rfl, rfl, rfl, rfl, (by first | rfl | exact ci (by omega) | exact ci (by simp) | exact cd (by simp) | simp), trivial⟩ ⟨rfl, rfl, trivial⟩) (fun j hok => ?_)
                        obtain ⟨hkj, hr⟩ := hok
                        refine a_rseq ?_
                        refine rg_put (d := 90) (v := .d (.fl (.bool ((decide ((j : Int) < (s.res.trips.length : Int))))))) rfl (og rfl (op_bin rfl rfl rfl (b_lss _ _ _ _) rfl)) ?_
                        refine rg_done rfl ?_
                        refine a_seq ?_
                        refine a_cond rfl (fun h28 => ?_) (fun h28 => ?_)
                        · skip
                          have h29 := t_dec h28
                          refine a_skip ?_
                          show A _ _ _ _ _ _ _
                          refine a_seq ?_
                          refine a_block ?_
                          refine a_rseq ?_
                          refine rg_put (d := 91) (v := .el ((eTp (ix s.res.trips j)))) rfl (og rfl (s_index rfl Tryd.underlying51 ti90 rfl rfl (by omega) (row_at (by omega)) rfl)) ?_
                          refine rg_put (d := 92) (v := .d (.ag (eTp (ix s.res.trips j)))) rfl (og rfl (of_eff (s_load_els rfl Tryd.underlying90 rfl ti90 rfl rfl rfl) rfl)) ?_
                          refine rg_nam (d := 7) (v := .pt 104 0) (m := 104) (nw := [(104, .bx 90 ([.fl (.string (⟨#[]⟩)), .fl (.string (⟨#[]⟩)), .fl (.string (⟨#[]⟩)), .fl (.int .i64 0), .fl (.slice none 0 0)]))]) rfl (og rfl (of_eff (s_alloc 104 rfl ti90 (by kernel_rfl) rfl) rfl)) rfl ?_
                          refine rg_sto (nw := [(104, .bx 90 ((eTp (ix s.res.trips j))))]) rfl (og rfl (of_eff (s_store rfl rfl ti90 rfl rfl rfl rfl rfl rfl) rfl)) ?_
                          refine rg_done rfl ?_
                          refine a_rseq ?_
                          refine rg_put (d := 93) (v := .pt 104 4) rfl (og rfl (of_eff (s_field_pt rfl Tryd.underlying90 rfl ti88 rfl rfl rfl) rfl)) ?_
                          refine rg_put (d := 94) (v := .d (.sl 3 (List.map eSp ((ix s.res.trips j).stops)))) rfl (og rfl (op_load_pt rfl Tryd.underlying88 rfl rfl rfl rfl rfl)) ?_
                          refine rg_put (d := 95) (v := .d (.fl (.int .i64 ((((ix s.res.trips j).stops).length : Int))))) rfl (og rfl (s_len rfl Tryd.underlying88 rfl rfl)) ?_
                          refine rg_put (d := 96) (v := .d (.fl (.bool ((decide (40 < (((ix s.res.trips j).stops).length : Int))))))) rfl (og rfl (op_bin rfl rfl rfl (b_gtr _ _ _ _) rfl)) ?_
                          refine rg_done rfl ?_
                          refine a_cond rfl (fun h30 => ?_) (fun h30 => ?_)
                          · skip
                            have h31 := t_dec h30
                            refine a_rseq ?_
                            refine rg_put (d := 2) (v := .d (.fl (.bool true))) rfl (og rfl (op_assign rfl rfl rfl)) ?_
                            refine rg_done rfl ?_
                            refine a_ret ?_
                            show ∃ ds, ResL _ _ _ ds ∧ RV.of ds = _
                            refine ⟨[.fl (.bool true)], (.cons (.tmp rfl (.d _)) .nil), ?_⟩
                            have ga : (s.res.trips.all fun p : Tp => !(decide ((40 : Int) < (p.stops.length : Int)))) = false := all_no (k := j) (by omega) (by rw [h30]; rfl)
                            have hu : bd s = false := by unfold bd; rw [ga]; simp only [Bool.and_false, Bool.false_and]
                            rw [hu]; rfl
                          · skip
                            have h32 := f_dec h30
                            refine a_skip ?_
                            show A _ _ _ _ _ _ _
                            refine a_region ?_
                            refine rg_put (d := 97) (v := .d (.fl (.int .i64 (((j : Int) + 1))))) rfl (og rfl (op_bin rfl rfl rfl (fun x y w => b_add64 _ _ _ x y w (by omega)) rfl)) ?_
                            refine rg_put (d := 89) (v := .d (.fl (.int .i64 (((j : Int) + 1))))) rfl (og rfl (op_move rfl rfl rfl)) ?_
                            refine rg_done rfl ?_
                            have hx : (!(decide ((40 : Int) < ((ix s.res.trips j).stops.length : Int)))) = true := by rw [h30]; rfl
                            show ∃ i, _ ∧ _ ∧ Imp _ _ _ _ _
                            refine ⟨j + 1, ⟨by omega, fun q h => (Nat.lt_succ_iff_lt_or_eq.1 h).elim (hr q) (fun e => by rw [e]; exact hx)⟩, by omega, imp_forget rfl ⟨rfl, rfl, rfl, rfl, rfl, rfl, rfl, rfl, rfl, rfl, (by first | rfl | exact ci (by omega) | exact ci (by simp) | exact cd (by simp) | simp), trivial⟩ ⟨rfl, rfl, trivial⟩⟩
                        · skip
                          have h33 := f_dec h28
                          refine a_exit ?_
                          show A _ _ _ _ _ _ _
                          refine a_seq ?_
                          refine a_rseq ?_
                          refine rg_put (d := 98) (v := .pt 102 4) rfl (og rfl (of_eff (s_field_pt rfl Tryd.underlying56 rfl ti53 rfl rfl rfl) rfl)) ?_
                          refine rg_put (d := 99) (v := .d (.sl 7 (List.map eCg s.res.chg))) rfl (og rfl (op_load_pt rfl Tryd.underlying53 rfl rfl rfl rfl rfl)) ?_
                          refine rg_put (d := 100) (v := .d (.fl (.int .i64 (s.res.chg.length : Int)))) rfl (og rfl (s_len rfl Tryd.underlying53 rfl rfl)) ?_
                          refine rg_put (d := 101) (v := .d (.fl (.int .i64 0))) rfl (og rfl (op_move rfl rfl rfl)) ?_
                          refine rg_done rfl ?_
                          refine a_block ?_
                          refine a_loop (ι := Nat) (fun m => SS [(0, .d (.ag (eSa s))), (1, .pt 101 0), (3, .pt 102 0), (73, .d (.fl (.bool ((decide (30 < (s.cfg.acc.length : Int))))))), (75, .d (.sl 8 (List.map ePg s.res.pass))), (76, .d (.fl (.int .i64 (s.res.pass.length : Int)))), (77, .d (.fl (.int .i64 (k : Int)))), (78, .d (.fl (.bool ((decide ((k : Int) < (s.res.pass.length : Int))))))), (87, .d (.sl 5 (List.map eTp s.res.trips))), (88, .d (.fl (.int .i64 (s.res.trips.length : Int)))), (89, .d (.fl (.int .i64 (j : Int)))), (90, .d (.fl (.bool ((decide ((j : Int) < (s.res.trips.length : Int))))))), (99, .d (.sl 7 (List.map eCg s.res.chg))), (100, .d (.fl (.int .i64 (s.res.chg.length : Int)))), (101, .d (.fl (.int .i64 (m : Int))))] [(101, .bx 64 (eSa s)), (102, .bx 56 (eRs s.res))]) (fun m => m ≤ s.res.chg.length ∧ ∀ q, q < m → (!(decide ((40 : Int) < ((ix s.res.chg q).lines.length : Int)))) = true) (fun m => s.res.chg.length - m) 0 (⟨by omega, fun q h => by omega⟩) (imp_forget rfl ⟨rfl, rfl, rfl, rfl, rfl, rfl, rfl, rfl, rfl, rfl, rfl, rfl, rfl, rfl, (by first | rfl | exact ci (by omega) | exact ci (by simp) | exact cd (by simp) | simp), trivial⟩ ⟨rfl, rfl, trivial⟩) (fun m hok => ?_)
                          obtain ⟨hkm, ht⟩ := hok
                          refine a_rseq ?_
                          refine rg_put (d := 102) (v := .d (.fl (.bool ((decide ((m : Int) < (s.res.chg.length : Int))))))) rfl (og rfl (op_bin rfl rfl rfl (b_lss _ _ _ _) rfl)) ?_
                          refine rg_done rfl ?_
                          refine a_seq ?_
                          refine a_cond rfl (fun h34 => ?_) (fun h34 => ?_)
                          · skip
                            have h35 := t_dec h34
                            refine a_skip ?_
                            show A _ _ _ _ _ _ _
                            refine a_seq ?_
                            refine a_block ?_
                            refine a_rseq ?_
                            refine rg_put (d := 103) (v := .el ((eCg (ix s.res.chg m)))) rfl (og rfl (s_index rfl Tryd.underlying53 ti93 rfl rfl (by omega) (row_at (by omega)) rfl)) ?_
                            refine rg_put (d := 104) (v := .d (.ag (eCg (ix s.res.chg m)))) rfl (og rfl (of_eff (s_load_els rfl Tryd.underlying93 rfl ti93 rfl rfl rfl) rfl)) ?_
                            refine rg_nam (d := 9) (v := .pt 105 0) (m := 105) (nw := [(105, .bx 93 ([.fl (.string (⟨#[]⟩)), .fl (.string (⟨#[]⟩)), .fl (.string (⟨#[]⟩)), .fl (.int .i64 0), .fl (.int .i64 0), .fl (.slice none 0 0), .fl (.int .i64 0)]))]) rfl (og rfl (of_eff (s_alloc 105 rfl ti93 (by kernel_rfl) rfl) rfl)) rfl ?_
                            refine rg_sto (nw := [(105, .bx 93 ((eCg (ix s.res.chg m))))]) rfl (og rfl (of_eff (s_store rfl rfl ti93 rfl rfl rfl rfl rfl rfl) rfl)) ?_
                            refine rg_done rfl ?_
                            refine a_rseq ?_
                            refine rg_put (d := 105) (v := .pt 105 5) rfl (og rfl (of_eff (s_field_pt rfl Tryd.underlying93 rfl ti91 rfl rfl rfl) rfl)) ?_
                            refine rg_put (d := 106) (v := .d (.sl 2 (List.map eLn ((ix s.res.chg m).lines)))) rfl (og rfl (op_load_pt rfl Tryd.underlying91 rfl rfl rfl rfl rfl)) ?_
                            refine rg_put (d := 107) (v := .d (.fl (.int .i64 ((((ix s.res.chg m).lines).length : Int))))) rfl (og rfl (s_len rfl Tryd.underlying91 rfl rfl)) ?_
                            refine rg_put (d := 108) (v := .d (.fl (.bool ((decide (40 < (((ix s.res.chg m).lines).length : Int))))))) rfl (og rfl (op_bin rfl rfl rfl (b_gtr _ _ _ _) rfl)) ?_
                            refine rg_done rfl ?_
                            refine a_cond rfl (fun h36 => ?_) (fun h36 => ?_)
                            · skip
                              have h37 := t_dec h36
                              refine a_rseq ?_
                              refine rg_put (d := 2) (v := .d (.fl (.bool true))) rfl (og rfl (op_assign rfl rfl rfl)) ?_
                              refine rg_done rfl ?_
                              refine a_ret ?_
                              show ∃ ds, ResL _ _ _ ds ∧ RV.of ds = _
                              refine ⟨[.fl (.bool true)], (.cons (.tmp rfl (.d _)) .nil), ?_⟩
                              have ga : (s.res.chg.all fun p : Cg => !(decide ((40 : Int) < (p.lines.length : Int)))) = false := all_no (k := m) (by omega) (by rw [h36]; rfl)
                              have hu : bd s = false := by unfold bd; rw [ga]; simp only [Bool.and_false, Bool.false_and]
                              rw [hu]; rfl
                            · skip
                              have h38 := f_dec h36
                              refine a_skip ?_
                              show A _ _ _ _ _ _ _
                              refine a_region ?_
                              refine rg_put (d := 109) (v := .d (.fl (.int .i64 (((m : Int) + 1))))) rfl (og rfl (op_bin rfl rfl rfl (fun x y w => b_add64 _ _ _ x y w (by omega)) rfl)) ?_
                              refine rg_put (d := 101) (v := .d (.fl (.int .i64 (((m : Int) + 1))))) rfl (og rfl (op_move rfl rfl rfl)) ?_
                              refine rg_done rfl ?_
                              have hx : (!(decide ((40 : Int) < ((ix s.res.chg m).lines.length : Int)))) = true := by rw [h36]; rfl
                              show ∃ i, _ ∧ _ ∧ Imp _ _ _ _ _
                              refine ⟨m + 1, ⟨by omega, fun q h => (Nat.lt_succ_iff_lt_or_eq.1 h).elim (ht q) (fun e => by rw [e]; exact hx)⟩, by omega, imp_forget rfl ⟨rfl, rfl, rfl, rfl, rfl, rfl, rfl, rfl, rfl, rfl, rfl, rfl, rfl, rfl, (by first | rfl | exact ci (by omega) | exact ci (by simp) | exact cd (by simp) | simp), trivial⟩ ⟨rfl, rfl, trivial⟩⟩
                          · skip
                            have h39 := f_dec h34
                            refine a_exit ?_
                            show A _ _ _ _ _ _ _
                            refine a_seq ?_
                            refine a_rseq ?_
                            refine rg_put (d := 110) (v := .pt 101 0) rfl (og rfl (of_eff (s_field_pt rfl Tryd.underlying64 rfl ti46 rfl rfl rfl) rfl)) ?_
                            refine rg_put (d := 111) (v := .pt 101 17) rfl (og rfl (of_eff (s_field_pt rfl Tryd.underlying46 rfl ti40 rfl rfl rfl) rfl)) ?_
                            refine rg_put (d := 112) (v := .d (.sl 9 (List.map eAc s.cfg.acc))) rfl (og rfl (op_load_pt rfl Tryd.underlying40 rfl rfl rfl rfl rfl)) ?_
                            refine rg_put (d := 113) (v := .d (.fl (.int .i64 (s.cfg.acc.length : Int)))) rfl (og rfl (s_len rfl Tryd.underlying40 rfl rfl)) ?_
                            refine rg_put (d := 114) (v := .d (.fl (.int .i64 0))) rfl (og rfl (op_move rfl rfl rfl)) ?_
                            refine rg_done rfl ?_
                            refine a_block ?_
                            refine a_loop (ι := Nat) (fun u => SS [(0, .d (.ag (eSa s))), (1, .pt 101 0), (3, .pt 102 0), (73, .d (.fl (.bool ((decide (30 < (s.cfg.acc.length : Int))))))), (75, .d (.sl 8 (List.map ePg s.res.pass))), (76, .d (.fl (.int .i64 (s.res.pass.length : Int)))), (77, .d (.fl (.int .i64 (k : Int)))), (78, .d (.fl (.bool ((decide ((k : Int) < (s.res.pass.length : Int))))))), (87, .d (.sl 5 (List.map eTp s.res.trips))), (88, .d (.fl (.int .i64 (s.res.trips.length : Int)))), (89, .d (.fl (.int .i64 (j : Int)))), (90, .d (.fl (.bool ((decide ((j : Int) < (s.res.trips.length : Int))))))), (99, .d (.sl 7 (List.map eCg s.res.chg))), (100, .d (.fl (.int .i64 (s.res.chg.length : Int)))), (101, .d (.fl (.int .i64 (m : Int)))), (102, .d (.fl (.bool ((decide ((m : Int) < (s.res.chg.length : Int))))))), (112, .d (.sl 9 (List.map eAc s.cfg.acc))), (113, .d (.fl (.int .i64 (s.cfg.acc.length : Int)))), (114, .d (.fl (.int .i64 (u : Int))))] [(101, .bx 64 (eSa s)), (102, .bx 56 (eRs s.res))]) (fun u => u ≤ s.cfg.acc.length ∧ ∀ q, q < u → (!(decide ((80 : Int) < ((ix s.cfg.acc q).owned.length : Int)))) = true) (fun u => s.cfg.acc.length - u) 0 (⟨by omega, fun q h => by omega⟩) (imp_forget rfl ⟨rfl, rfl, rfl, rfl, rfl, rfl, rfl, rfl, rfl, rfl, rfl, rfl, rfl, rfl, rfl, rfl, rfl, rfl, (by first | rfl | exact ci (by omega) | exact ci (by simp) | exact cd (by simp) | simp), trivial⟩ ⟨rfl, rfl, trivial⟩) (fun u hok => ?_)
                            obtain ⟨hku, hw⟩ := hok
                            refine a_rseq ?_
                            refine rg_put (d := 115) (v := .d (.fl (.bool ((decide ((u : Int) < (s.cfg.acc.length : Int))))))) rfl (og rfl (op_bin rfl rfl rfl (b_lss _ _ _ _) rfl)) ?_
                            refine rg_done rfl ?_
                            refine a_seq ?_
                            refine a_cond rfl (fun h40 => ?_) (fun h40 => ?_)
                            · skip
                              have h41 := t_dec h40
                              refine a_skip ?_
                              show A _ _ _ _ _ _ _
                              refine a_seq ?_
                              refine a_block ?_
                              refine a_rseq ?_
                              refine rg_put (d := 116) (v := .el ((eAc (ix s.cfg.acc u)))) rfl (og rfl (s_index rfl Tryd.underlying40 ti98 rfl rfl (by omega) (row_at (by omega)) rfl)) ?_
                              refine rg_put (d := 117) (v := .d (.ag (eAc (ix s.cfg.acc u)))) rfl (og rfl (of_eff (s_load_els rfl Tryd.underlying98 rfl ti98 rfl rfl rfl) rfl)) ?_
                              refine rg_nam (d := 11) (v := .pt 106 0) (m := 106) (nw := [(106, .bx 98 ([.fl (.string (⟨#[]⟩)), .fl (.string (⟨#[]⟩)), .fl (.bool false), .fl (.slice none 0 0), .fl (.int .i64 0), .fl (.int .i64 0), .fl (.int .i64 0), .fl (.int .i64 0), .fl (.bool false)]))]) rfl (og rfl (of_eff (s_alloc 106 rfl ti98 (by kernel_rfl) rfl) rfl)) rfl ?_
                              refine rg_sto (nw := [(106, .bx 98 ((eAc (ix s.cfg.acc u))))]) rfl (og rfl (of_eff (s_store rfl rfl ti98 rfl rfl rfl rfl rfl rfl) rfl)) ?_
                              refine rg_done rfl ?_
                              refine a_rseq ?_
                              refine rg_put (d := 118) (v := .pt 106 3) rfl (og rfl (of_eff (s_field_pt rfl Tryd.underlying98 rfl ti94 rfl rfl rfl) rfl)) ?_
                              refine rg_put (d := 119) (v := .d (.sl 4 (List.map eOw ((ix s.cfg.acc u).owned)))) rfl (og rfl (op_load_pt rfl Tryd.underlying94 rfl rfl rfl rfl rfl)) ?_
                              refine rg_put (d := 120) (v := .d (.fl (.int .i64 ((((ix s.cfg.acc u).owned).length : Int))))) rfl (og rfl (s_len rfl Tryd.underlying94 rfl rfl)) ?_
                              refine rg_put (d := 121) (v := .d (.fl (.bool ((decide (80 < (((ix s.cfg.acc u).owned).length : Int))))))) rfl (og rfl (op_bin rfl rfl rfl (b_gtr _ _ _ _) rfl)) ?_
                              refine rg_done rfl ?_
                              refine a_cond rfl (fun h42 => ?_) (fun h42 => ?_)
                              · skip
                                have h43 := t_dec h42
                                refine a_rseq ?_
                                refine rg_put (d := 2) (v := .d (.fl (.bool true))) rfl (og rfl (op_assign rfl rfl rfl)) ?_
                                refine rg_done rfl ?_
                                refine a_ret ?_
                                show ∃ ds, ResL _ _ _ ds ∧ RV.of ds = _
                                refine ⟨[.fl (.bool true)], (.cons (.tmp rfl (.d _)) .nil), ?_⟩
                                have ga : (s.cfg.acc.all fun p : Ac => !(decide ((80 : Int) < (p.owned.length : Int)))) = false := all_no (k := u) (by omega) (by rw [h42]; rfl)
                                have hu : bd s = false := by unfold bd; rw [ga]; simp only [Bool.and_false, Bool.false_and]
                                rw [hu]; rfl
                              · skip
                                have h44 := f_dec h42
                                refine a_skip ?_
                                show A _ _ _ _ _ _ _
                                refine a_region ?_
                                refine rg_put (d := 122) (v := .d (.fl (.int .i64 (((u : Int) + 1))))) rfl (og rfl (op_bin rfl rfl rfl (fun x y w => b_add64 _ _ _ x y w (by omega)) rfl)) ?_
                                refine rg_put (d := 114) (v := .d (.fl (.int .i64 (((u : Int) + 1))))) rfl (og rfl (op_move rfl rfl rfl)) ?_
                                refine rg_done rfl ?_
                                have hx : (!(decide ((80 : Int) < ((ix s.cfg.acc u).owned.length : Int)))) = true := by rw [h42]; rfl
                                show ∃ i, _ ∧ _ ∧ Imp _ _ _ _ _
                                refine ⟨u + 1, ⟨by omega, fun q h => (Nat.lt_succ_iff_lt_or_eq.1 h).elim (hw q) (fun e => by rw [e]; exact hx)⟩, by omega, imp_forget rfl ⟨rfl, rfl, rfl, rfl, rfl, rfl, rfl, rfl, rfl, rfl, rfl, rfl, rfl, rfl, rfl, rfl, rfl, rfl, (by first | rfl | exact ci (by omega) | exact ci (by simp) | exact cd (by simp) | simp), trivial⟩ ⟨rfl, rfl, trivial⟩⟩
                            · skip
                              have h45 := f_dec h40
                              refine a_exit ?_
                              show A _ _ _ _ _ _ _
                              refine a_rseq ?_
                              refine rg_put (d := 2) (v := .d (.fl (.bool false))) rfl (og rfl (op_assign rfl rfl rfl)) ?_
                              refine rg_done rfl ?_
                              refine a_ret ?_
                              show ∃ ds, ResL _ _ _ ds ∧ RV.of ds = _
                              refine ⟨[.fl (.bool false)], (.cons (.tmp rfl (.d _)) .nil), ?_⟩
                              have hln : lnB s = true := by unfold lnB; simp only [h1, h3, h5, h7, h9, h11, h13, h15, h17, h19, Bool.true_and, Bool.false_and, Bool.and_true, Bool.and_false, Bool.or_true, Bool.or_false, Bool.true_or, Bool.false_or, Bool.not_true, Bool.not_false] <;> rfl
                              have g0 := all_yes (l := s.res.pass) (p := fun p : Pg => !(decide ((40 : Int) < (p.srcs.length : Int)))) (fun q h => hq q (by omega))
                              have g1 := all_yes (l := s.res.trips) (p := fun p : Tp => !(decide ((40 : Int) < (p.stops.length : Int)))) (fun q h => hr q (by omega))
                              have g2 := all_yes (l := s.res.chg) (p := fun p : Cg => !(decide ((40 : Int) < (p.lines.length : Int)))) (fun q h => ht q (by omega))
                              have g3 := all_yes (l := s.cfg.acc) (p := fun p : Ac => !(decide ((80 : Int) < (p.owned.length : Int)))) (fun q h => hw q (by omega))
                              have hu : bd s = true := by unfold bd; rw [hln, g0, g1, g2, g3]; rfl
                              rw [hu]; rfl
                  · skip
                    have h46 := t_dec h17
                    refine rg_put (d := 68) (v := .d (.fl undef)) rfl (on rfl rfl rfl h17) ?_
                    refine rg_put (d := 69) (v := .d (.fl undef)) rfl (on rfl rfl rfl h17) ?_
                    refine rg_put (d := 70) (v := .d (.fl undef)) rfl (on rfl rfl rfl h17) ?_
                    refine rg_put (d := 71) (v := .d (.fl undef)) rfl (on rfl rfl rfl h17) ?_
                    refine rg_put (d := 72) (v := .d (.fl undef)) rfl (on rfl rfl rfl h17) ?_
                    refine rg_put (d := 73) (v := .d (.fl (.bool true))) rfl (og rfl (op_pick rfl rfl (by rw [h17]; rfl) rfl)) ?_
                    refine rg_done rfl ?_
                    refine a_condK rfl rfl ?_
                    refine a_rseq ?_
                    refine rg_put (d := 2) (v := .d (.fl (.bool true))) rfl (og rfl (op_assign rfl rfl rfl)) ?_
                    refine rg_done rfl ?_
                    refine a_ret ?_
                    show ∃ ds, ResL _ _ _ ds ∧ RV.of ds = _
                    refine ⟨[.fl (.bool true)], (.cons (.tmp rfl (.d _)) .nil), ?_⟩
                    have hu : bd s = false := by unfold bd lnB; simp only [h1, h3, h5, h7, h9, h11, h13, h15, h17, Bool.true_and, Bool.false_and, Bool.and_true, Bool.and_false, Bool.or_true, Bool.or_false, Bool.true_or, Bool.false_or, Bool.not_true, Bool.not_false] <;> rfl
                    rw [hu]; rfl
                · skip
                  have h47 := t_dec h15
                  refine rg_put (d := 61) (v := .d (.fl undef)) rfl (on rfl rfl rfl h15) ?_
                  refine rg_put (d := 62) (v := .d (.fl undef)) rfl (on rfl rfl rfl h15) ?_
                  refine rg_put (d := 63) (v := .d (.fl undef)) rfl (on rfl rfl rfl h15) ?_
                  refine rg_put (d := 64) (v := .d (.fl undef)) rfl (on rfl rfl rfl h15) ?_
                  refine rg_put (d := 65) (v := .d (.fl undef)) rfl (on rfl rfl rfl h15) ?_
                  refine rg_put (d := 66) (v := .d (.fl (.bool true))) rfl (og rfl (op_pick rfl rfl (by rw [h15]; rfl) rfl)) ?_
                  refine rg_put (d := 67) (v := .d (.fl (.bool true))) rfl (og rfl (op_move rfl rfl rfl)) ?_
                  refine rg_put (d := 68) (v := .d (.fl undef)) rfl (on rfl rfl rfl rfl) ?_
                  refine rg_put (d := 69) (v := .d (.fl undef)) rfl (on rfl rfl rfl rfl) ?_
                  refine rg_put (d := 70) (v := .d (.fl undef)) rfl (on rfl rfl rfl rfl) ?_
                  refine rg_put (d := 71) (v := .d (.fl undef)) rfl (on rfl rfl rfl rfl) ?_
                  refine rg_put (d := 72) (v := .d (.fl undef)) rfl (on rfl rfl rfl rfl) ?_
                  refine rg_put (d := 73) (v := .d (.fl (.bool true))) rfl (og rfl (op_pick rfl rfl rfl rfl)) ?_
                  refine rg_done rfl ?_
                  refine a_condK rfl rfl ?_
                  refine a_rseq ?_
                  refine rg_put (d := 2) (v := .d (.fl (.bool true))) rfl (og rfl (op_assign rfl rfl rfl)) ?_
                  refine rg_done rfl ?_
                  refine a_ret ?_
                  show ∃ ds, ResL _ _ _ ds ∧ RV.of ds = _
                  refine ⟨[.fl (.bool true)], (.cons (.tmp rfl (.d _)) .nil), ?_⟩
                  have hu : bd s = false := by unfold bd lnB; simp only [h1, h3, h5, h7, h9, h11, h13, h15, Bool.true_and, Bool.false_and, Bool.and_true, Bool.and_false, Bool.or_true, Bool.or_false, Bool.true_or, Bool.false_or, Bool.not_true, Bool.not_false] <;> rfl
                  rw [hu]; rfl
              · skip
                have h48 := t_dec h13
                refine rg_put (d := 55) (v := .d (.fl undef)) rfl (on rfl rfl rfl h13) ?_
                refine rg_put (d := 56) (v := .d (.fl undef)) rfl (on rfl rfl rfl h13) ?_
                refine rg_put (d := 57) (v := .d (.fl undef)) rfl (on rfl rfl rfl h13) ?_
                refine rg_put (d := 58) (v := .d (.fl undef)) rfl (on rfl rfl rfl h13) ?_
                refine rg_put (d := 59) (v := .d (.fl (.bool true))) rfl (og rfl (op_pick rfl rfl (by rw [h13]; rfl) rfl)) ?_
                refine rg_put (d := 60) (v := .d (.fl (.bool true))) rfl (og rfl (op_move rfl rfl rfl)) ?_
                refine rg_put (d := 61) (v := .d (.fl undef)) rfl (on rfl rfl rfl rfl) ?_
                refine rg_put (d := 62) (v := .d (.fl undef)) rfl (on rfl rfl rfl rfl) ?_
                refine rg_put (d := 63) (v := .d (.fl undef)) rfl (on rfl rfl rfl rfl) ?_
                refine rg_put (d := 64) (v := .d (.fl undef)) rfl (on rfl rfl rfl rfl) ?_
                refine rg_put (d := 65) (v := .d (.fl undef)) rfl (on rfl rfl rfl rfl) ?_
                refine rg_put (d := 66) (v := .d (.fl (.bool true))) rfl (og rfl (op_pick rfl rfl rfl rfl)) ?_
                refine rg_put (d := 67) (v := .d (.fl (.bool true))) rfl (og rfl (op_move rfl rfl rfl)) ?_
                refine rg_put (d := 68) (v := .d (.fl undef)) rfl (on rfl rfl rfl rfl) ?_
                refine rg_put (d := 69) (v := .d (.fl undef)) rfl (on rfl rfl rfl rfl) ?_
                refine rg_put (d := 70) (v := .d (.fl undef)) rfl (on rfl rfl rfl rfl) ?_
                refine rg_put (d := 71) (v := .d (.fl undef)) rfl (on rfl rfl rfl rfl) ?_
                refine rg_put (d := 72) (v := .d (.fl undef)) rfl (on rfl rfl rfl rfl) ?_
                refine rg_put (d := 73) (v := .d (.fl (.bool true))) rfl (og rfl (op_pick rfl rfl rfl rfl)) ?_
                refine rg_done rfl ?_
                refine a_condK rfl rfl ?_
                refine a_rseq ?_
                refine rg_put (d := 2) (v := .d (.fl (.bool true))) rfl (og rfl (op_assign rfl rfl rfl)) ?_
                refine rg_done rfl ?_
                refine a_ret ?_
                show ∃ ds, ResL _ _ _ ds ∧ RV.of ds = _
                refine ⟨[.fl (.bool true)], (.cons (.tmp rfl (.d _)) .nil), ?_⟩
                have hu : bd s = false := by unfold bd lnB; simp only [h1, h3, h5, h7, h9, h11, h13, Bool.true_and, Bool.false_and, Bool.and_true, Bool.and_false, Bool.or_true, Bool.or_false, Bool.true_or, Bool.false_or, Bool.not_true, Bool.not_false] <;> rfl
                rw [hu]; rfl
            · skip
              have h49 := t_dec h11
              refine rg_put (d := 49) (v := .d (.fl undef)) rfl (on rfl rfl rfl h11) ?_
              refine rg_put (d := 50) (v := .d (.fl undef)) rfl (on rfl rfl rfl h11) ?_
              refine rg_put (d := 51) (v := .d (.fl undef)) rfl (on rfl rfl rfl h11) ?_
              refine rg_put (d := 52) (v := .d (.fl undef)) rfl (on rfl rfl rfl h11) ?_
              refine rg_put (d := 53) (v := .d (.fl (.bool true))) rfl (og rfl (op_pick rfl rfl (by rw [h11]; rfl) rfl)) ?_
              refine rg_put (d := 54) (v := .d (.fl (.bool true))) rfl (og rfl (op_move rfl rfl rfl)) ?_
              refine rg_put (d := 55) (v := .d (.fl undef)) rfl (on rfl rfl rfl rfl) ?_
              refine rg_put (d := 56) (v := .d (.fl undef)) rfl (on rfl rfl rfl rfl) ?_
              refine rg_put (d := 57) (v := .d (.fl undef)) rfl (on rfl rfl rfl rfl) ?_
              refine rg_put (d := 58) (v := .d (.fl undef)) rfl (on rfl rfl rfl rfl) ?_
              refine rg_put (d := 59) (v := .d (.fl (.bool true))) rfl (og rfl (op_pick rfl rfl rfl rfl)) ?_
              refine rg_put (d := 60) (v := .d (.fl (.bool true))) rfl (og rfl (op_move rfl rfl rfl)) ?_
              refine rg_put (d := 61) (v := .d (.fl undef)) rfl (on rfl rfl rfl rfl) ?_
              refine rg_put (d := 62) (v := .d (.fl undef)) rfl (on rfl rfl rfl rfl) ?_
              refine rg_put (d := 63) (v := .d (.fl undef)) rfl (on rfl rfl rfl rfl) ?_
              refine rg_put (d := 64) (v := .d (.fl undef)) rfl (on rfl rfl rfl rfl) ?_
              refine rg_put (d := 65) (v := .d (.fl undef)) rfl (on rfl rfl rfl rfl) ?_
              refine rg_put (d := 66) (v := .d (.fl (.bool true))) rfl (og rfl (op_pick rfl rfl rfl rfl)) ?_
              refine rg_put (d := 67) (v := .d (.fl (.bool true))) rfl (og rfl (op_move rfl rfl rfl)) ?_
              refine rg_put (d := 68) (v := .d (.fl undef)) rfl (on rfl rfl rfl rfl) ?_
              refine rg_put (d := 69) (v := .d (.fl undef)) rfl (on rfl rfl rfl rfl) ?_
              refine rg_put (d := 70) (v := .d (.fl undef)) rfl (on rfl rfl rfl rfl) ?_
              refine rg_put (d := 71) (v := .d (.fl undef)) rfl (on rfl rfl rfl rfl) ?_
              refine rg_put (d := 72) (v := .d (.fl undef)) rfl (on rfl rfl rfl rfl) ?_
              refine rg_put (d := 73) (v := .d (.fl (.bool true))) rfl (og rfl (op_pick rfl rfl rfl rfl)) ?_
              refine rg_done rfl ?_
              refine a_condK rfl rfl ?_
              refine a_rseq ?_
              refine rg_put (d := 2) (v := .d (.fl (.bool true))) rfl (og rfl (op_assign rfl rfl rfl)) ?_
              refine rg_done rfl ?_
              refine a_ret ?_
              show ∃ ds, ResL _ _ _ ds ∧ RV.of ds = _
              refine ⟨[.fl (.bool true)], (.cons (.tmp rfl (.d _)) .nil), ?_⟩
              have hu : bd s = false := by unfold bd lnB; simp only [h1, h3, h5, h7, h9, h11, Bool.true_and, Bool.false_and, Bool.and_true, Bool.and_false, Bool.or_true, Bool.or_false, Bool.true_or, Bool.false_or, Bool.not_true, Bool.not_false] <;> rfl
              rw [hu]; rfl
          · skip
            have h50 := t_dec h9
            refine rg_put (d := 43) (v := .d (.fl undef)) rfl (on rfl rfl rfl h9) ?_
            refine rg_put (d := 44) (v := .d (.fl undef)) rfl (on rfl rfl rfl h9) ?_
            refine rg_put (d := 45) (v := .d (.fl undef)) rfl (on rfl rfl rfl h9) ?_
            refine rg_put (d := 46) (v := .d (.fl undef)) rfl (on rfl rfl rfl h9) ?_
            refine rg_put (d := 47) (v := .d (.fl (.bool true))) rfl (og rfl (op_pick rfl rfl (by rw [h9]; rfl) rfl)) ?_
            refine rg_put (d := 48) (v := .d (.fl (.bool true))) rfl (og rfl (op_move rfl rfl rfl)) ?_
            refine rg_put (d := 49) (v := .d (.fl undef)) rfl (on rfl rfl rfl rfl) ?_
            refine rg_put (d := 50) (v := .d (.fl undef)) rfl (on rfl rfl rfl rfl) ?_
            refine rg_put (d := 51) (v := .d (.fl undef)) rfl (on rfl rfl rfl rfl) ?_
            refine rg_put (d := 52) (v := .d (.fl undef)) rfl (on rfl rfl rfl rfl) ?_
            refine rg_put (d := 53) (v := .d (.fl (.bool true))) rfl (og rfl (op_pick rfl rfl rfl rfl)) ?_
            refine rg_put (d := 54) (v := .d (.fl (.bool true))) rfl (og rfl (op_move rfl rfl rfl)) ?_
            refine rg_put (d := 55) (v := .d (.fl undef)) rfl (on rfl rfl rfl rfl) ?_
            refine rg_put (d := 56) (v := .d (.fl undef)) rfl (on rfl rfl rfl rfl) ?_
            refine rg_put (d := 57) (v := .d (.fl undef)) rfl (on rfl rfl rfl rfl) ?_
            refine rg_put (d := 58) (v := .d (.fl undef)) rfl (on rfl rfl rfl rfl) ?_
            refine rg_put (d := 59) (v := .d (.fl (.bool true))) rfl (og rfl (op_pick rfl rfl rfl rfl)) ?_
            refine rg_put (d := 60) (v := .d (.fl (.bool true))) rfl (og rfl (op_move rfl rfl rfl)) ?_
            refine rg_put (d := 61) (v := .d (.fl undef)) rfl (on rfl rfl rfl rfl) ?_
            refine rg_put (d := 62) (v := .d (.fl undef)) rfl (on rfl rfl rfl rfl) ?_
            refine rg_put (d := 63) (v := .d (.fl undef)) rfl (on rfl rfl rfl rfl) ?_
            refine rg_put (d := 64) (v := .d (.fl undef)) rfl (on rfl rfl rfl rfl) ?_
            refine rg_put (d := 65) (v := .d (.fl undef)) rfl (on rfl rfl rfl rfl) ?_
            refine rg_put (d := 66) (v := .d (.fl (.bool true))) rfl (og rfl (op_pick rfl rfl rfl rfl)) ?_
            refine rg_put (d := 67) (v := .d (.fl (.bool true))) rfl (og rfl (op_move rfl rfl rfl)) ?_
            refine rg_put (d := 68) (v := .d (.fl undef)) rfl (on rfl rfl rfl rfl) ?_
            refine rg_put (d := 69) (v := .d (.fl undef)) rfl (on rfl rfl rfl rfl) ?_
            refine rg_put (d := 70) (v := .d (.fl undef)) rfl (on rfl rfl rfl rfl) ?_
            refine rg_put (d := 71) (v := .d (.fl undef)) rfl (on rfl rfl rfl rfl) ?_
            refine rg_put (d := 72) (v := .d (.fl undef)) rfl (on rfl rfl rfl rfl) ?_
            refine rg_put (d := 73) (v := .d (.fl (.bool true))) rfl (og rfl (op_pick rfl rfl rfl rfl)) ?_
            refine rg_done rfl ?_
            refine a_condK rfl rfl ?_
            refine a_rseq ?_
            refine rg_put (d := 2) (v := .d (.fl (.bool true))) rfl (og rfl (op_assign rfl rfl rfl)) ?_
            refine rg_done rfl ?_
            refine a_ret ?_
            show ∃ ds, ResL _ _ _ ds ∧ RV.of ds = _
            refine ⟨[.fl (.bool true)], (.cons (.tmp rfl (.d _)) .nil), ?_⟩
            have hu : bd s = false := by unfold bd lnB; simp only [h1, h3, h5, h7, h9, Bool.true_and, Bool.false_and, Bool.and_true, Bool.and_false, Bool.or_true, Bool.or_false, Bool.true_or, Bool.false_or, Bool.not_true, Bool.not_false] <;> rfl
            rw [hu]; rfl
        · skip
          have h51 := t_dec h7
          refine rg_put (d := 37) (v := .d (.fl undef)) rfl (on rfl rfl rfl h7) ?_
          refine rg_put (d := 38) (v := .d (.fl undef)) rfl (on rfl rfl rfl h7) ?_
          refine rg_put (d := 39) (v := .d (.fl undef)) rfl (on rfl rfl rfl h7) ?_
          refine rg_put (d := 40) (v := .d (.fl undef)) rfl (on rfl rfl rfl h7) ?_
          refine rg_put (d := 41) (v := .d (.fl (.bool true))) rfl (og rfl (op_pick rfl rfl (by rw [h7]; rfl) rfl)) ?_
          refine rg_put (d := 42) (v := .d (.fl (.bool true))) rfl (og rfl (op_move rfl rfl rfl)) ?_
          refine rg_put (d := 43) (v := .d (.fl undef)) rfl (on rfl rfl rfl rfl) ?_
          refine rg_put (d := 44) (v := .d (.fl undef)) rfl (on rfl rfl rfl rfl) ?_
          refine rg_put (d := 45) (v := .d (.fl undef)) rfl (on rfl rfl rfl rfl) ?_
          refine rg_put (d := 46) (v := .d (.fl undef)) rfl (on rfl rfl rfl rfl) ?_
          refine rg_put (d := 47) (v := .d (.fl (.bool true))) rfl (og rfl (op_pick rfl rfl rfl rfl)) ?_
          refine rg_put (d := 48) (v := .d (.fl (.bool true))) rfl (og rfl (op_move rfl rfl rfl)) ?_
          refine rg_put (d := 49) (v := .d (.fl undef)) rfl (on rfl rfl rfl rfl) ?_
          refine rg_put (d := 50) (v := .d (.fl undef)) rfl (on rfl rfl rfl rfl) ?_
          refine rg_put (d := 51) (v := .d (.fl undef)) rfl (on rfl rfl rfl rfl) ?_
          refine rg_put (d := 52) (v := .d (.fl undef)) rfl (on rfl rfl rfl rfl) ?_
          refine rg_put (d := 53) (v := .d (.fl (.bool true))) rfl (og rfl (op_pick rfl rfl rfl rfl)) ?_
          refine rg_put (d := 54) (v := .d (.fl (.bool true))) rfl (og rfl (op_move rfl rfl rfl)) ?_
          refine rg_put (d := 55) (v := .d (.fl undef)) rfl (on rfl rfl rfl rfl) ?_
          refine rg_put (d := 56) (v := .d (.fl undef)) rfl (on rfl rfl rfl rfl) ?_
          refine rg_put (d := 57) (v := .d (.fl undef)) rfl (on rfl rfl rfl rfl) ?_
          refine rg_put (d := 58) (v := .d (.fl undef)) rfl (on rfl rfl rfl rfl) ?_
          refine rg_put (d := 59) (v := .d (.fl (.bool true))) rfl (og rfl (op_pick rfl rfl rfl rfl)) ?_
          refine rg_put (d := 60) (v := .d (.fl (.bool true))) rfl (og rfl (op_move rfl rfl rfl)) ?_
          refine rg_put (d := 61) (v := .d (.fl undef)) rfl (on rfl rfl rfl rfl) ?_
          refine rg_put (d := 62) (v := .d (.fl undef)) rfl (on rfl rfl rfl rfl) ?_
          refine rg_put (d := 63) (v := .d (.fl undef)) rfl (on rfl rfl rfl rfl) ?_
          refine rg_put (d := 64) (v := .d (.fl undef)) rfl (on rfl rfl rfl rfl) ?_
          refine rg_put (d := 65) (v := .d (.fl undef)) rfl (on rfl rfl rfl rfl) ?_
          refine rg_put (d := 66) (v := .d (.fl (.bool true))) rfl (og rfl (op_pick rfl rfl rfl rfl)) ?_
          refine rg_put (d := 67) (v := .d (.fl (.bool true))) rfl (og rfl (op_move rfl rfl rfl)) ?_
          refine rg_put (d := 68) (v := .d (.fl undef)) rfl (on rfl rfl rfl rfl) ?_
          refine rg_put (d := 69) (v := .d (.fl undef)) rfl (on rfl rfl rfl rfl) ?_
          refine rg_put (d := 70) (v := .d (.fl undef)) rfl (on rfl rfl rfl rfl) ?_
          refine rg_put (d := 71) (v := .d (.fl undef)) rfl (on rfl rfl rfl rfl) ?_
          refine rg_put (d := 72) (v := .d (.fl undef)) rfl (on rfl rfl rfl rfl) ?_
          refine rg_put (d := 73) (v := .d (.fl (.bool true))) rfl (og rfl (op_pick rfl rfl rfl rfl)) ?_
          refine rg_done rfl ?_
          refine a_condK rfl rfl ?_
          refine a_rseq ?_
          refine rg_put (d := 2) (v := .d (.fl (.bool true))) rfl (og rfl (op_assign rfl rfl rfl)) ?_
          refine rg_done rfl ?_
          refine a_ret ?_
          show ∃ ds, ResL _ _ _ ds ∧ RV.of ds = _
          refine ⟨[.fl (.bool true)], (.cons (.tmp rfl (.d _)) .nil), ?_⟩
          have hu : bd s = false := by unfold bd lnB; simp only [h1, h3, h5, h7, Bool.true_and, Bool.false_and, Bool.and_true, Bool.and_false, Bool.or_true, Bool.or_false, Bool.true_or, Bool.false_or, Bool.not_true, Bool.not_false] <;> rfl
          rw [hu]; rfl
      · skip
        have h52 := t_dec h5
        refine rg_put (d := 31) (v := .d (.fl undef)) rfl (on rfl rfl rfl h5) ?_
        refine rg_put (d := 32) (v := .d (.fl undef)) rfl (on rfl rfl rfl h5) ?_
        refine rg_put (d := 33) (v := .d (.fl undef)) rfl (on rfl rfl rfl h5) ?_
        refine rg_put (d := 34) (v := .d (.fl undef)) rfl (on rfl rfl rfl h5) ?_
        refine rg_put (d := 35) (v := .d (.fl (.bool true))) rfl (og rfl (op_pick rfl rfl (by rw [h5]; rfl) rfl)) ?_
        refine rg_put (d := 36) (v := .d (.fl (.bool true))) rfl (og rfl (op_move rfl rfl rfl)) ?_
        refine rg_put (d := 37) (v := .d (.fl undef)) rfl (on rfl rfl rfl rfl) ?_
        refine rg_put (d := 38) (v := .d (.fl undef)) rfl (on rfl rfl rfl rfl) ?_
        refine rg_put (d := 39) (v := .d (.fl undef)) rfl (on rfl rfl rfl rfl) ?_
        refine rg_put (d := 40) (v := .d (.fl undef)) rfl (on rfl rfl rfl rfl) ?_
        refine rg_put (d := 41) (v := .d (.fl (.bool true))) rfl (og rfl (op_pick rfl rfl rfl rfl)) ?_
        refine rg_put (d := 42) (v := .d (.fl (.bool true))) rfl (og rfl (op_move rfl rfl rfl)) ?_
        refine rg_put (d := 43) (v := .d (.fl undef)) rfl (on rfl rfl rfl rfl) ?_
        refine rg_put (d := 44) (v := .d (.fl undef)) rfl (on rfl rfl rfl rfl) ?_
        refine rg_put (d := 45) (v := .d (.fl undef)) rfl (on rfl rfl rfl rfl) ?_
        refine rg_put (d := 46) (v := .d (.fl undef)) rfl (on rfl rfl rfl rfl) ?_
        refine rg_put (d := 47) (v := .d (.fl (.bool true))) rfl (og rfl (op_pick rfl rfl rfl rfl)) ?_
        refine rg_put (d := 48) (v := .d (.fl (.bool true))) rfl (og rfl (op_move rfl rfl rfl)) ?_
        refine rg_put (d := 49) (v := .d (.fl undef)) rfl (on rfl rfl rfl rfl) ?_
        refine rg_put (d := 50) (v := .d (.fl undef)) rfl (on rfl rfl rfl rfl) ?_
        refine rg_put (d := 51) (v := .d (.fl undef)) rfl (on rfl rfl rfl rfl) ?_
        refine rg_put (d := 52) (v := .d (.fl undef)) rfl (on rfl rfl rfl rfl) ?_
        refine rg_put (d := 53) (v := .d (.fl (.bool true))) rfl (og rfl (op_pick rfl rfl rfl rfl)) ?_
        refine rg_put (d := 54) (v := .d (.fl (.bool true))) rfl (og rfl (op_move rfl rfl rfl)) ?_
        refine rg_put (d := 55) (v := .d (.fl undef)) rfl (on rfl rfl rfl rfl) ?_
        refine rg_put (d := 56) (v := .d (.fl undef)) rfl (on rfl rfl rfl rfl) ?_
        refine rg_put (d := 57) (v := .d (.fl undef)) rfl (on rfl rfl rfl rfl) ?_
        refine rg_put (d := 58) (v := .d (.fl undef)) rfl (on rfl rfl rfl rfl) ?_
        refine rg_put (d := 59) (v := .d (.fl (.bool true))) rfl (og rfl (op_pick rfl rfl rfl rfl)) ?_
        refine rg_put (d := 60) (v := .d (.fl (.bool true))) rfl (og rfl (op_move rfl rfl rfl)) ?_
        refine rg_put (d := 61) (v := .d (.fl undef)) rfl (on rfl rfl rfl rfl) ?_
        refine rg_put (d := 62) (v := .d (.fl undef)) rfl (on rfl rfl rfl rfl) ?_
        refine rg_put (d := 63) (v := .d (.fl undef)) rfl (on rfl rfl rfl rfl) ?_
        refine rg_put (d := 64) (v := .d (.fl undef)) rfl (on rfl rfl rfl rfl) ?_
        refine rg_put (d := 65) (v := .d (.fl undef)) rfl (on rfl rfl rfl rfl) ?_
        refine rg_put (d := 66) (v := .d (.fl (.bool true))) rfl (og rfl (op_pick rfl rfl rfl rfl)) ?_
        refine rg_put (d := 67) (v := .d (.fl (.bool true))) rfl (og rfl (op_move rfl rfl rfl)) ?_
        refine rg_put (d := 68) (v := .d (.fl undef)) rfl (on rfl rfl rfl rfl) ?_
        refine rg_put (d := 69) (v := .d (.fl undef)) rfl (on rfl rfl rfl rfl) ?_
        refine rg_put (d := 70) (v := .d (.fl undef)) rfl (on rfl rfl rfl rfl) ?_
        refine rg_put (d := 71) (v := .d (.fl undef)) rfl (on rfl rfl rfl rfl) ?_
        refine rg_put (d := 72) (v := .d (.fl undef)) rfl (on rfl rfl rfl rfl) ?_
        refine rg_put (d := 73) (v := .d (.fl (.bool true))) rfl (og rfl (op_pick rfl rfl rfl rfl)) ?_
        refine rg_done rfl ?_
        refine a_condK rfl rfl ?_
        refine a_rseq ?_
        refine rg_put (d := 2) (v := .d (.fl (.bool true))) rfl (og rfl (op_assign rfl rfl rfl)) ?_
        refine rg_done rfl ?_
        refine a_ret ?_
        show ∃ ds, ResL _ _ _ ds ∧ RV.of ds = _
        refine ⟨[.fl (.bool true)], (.cons (.tmp rfl (.d _)) .nil), ?_⟩
        have hu : bd s = false := by unfold bd lnB; simp only [h1, h3, h5, Bool.true_and, Bool.false_and, Bool.and_true, Bool.and_false, Bool.or_true, Bool.or_false, Bool.true_or, Bool.false_or, Bool.not_true, Bool.not_false] <;> rfl
        rw [hu]; rfl
    · skip
      have h53 := t_dec h3
      refine rg_put (d := 25) (v := .d (.fl undef)) rfl (on rfl rfl rfl h3) ?_
      refine rg_put (d := 26) (v := .d (.fl undef)) rfl (on rfl rfl rfl h3) ?_
      refine rg_put (d := 27) (v := .d (.fl undef)) rfl (on rfl rfl rfl h3) ?_
      refine rg_put (d := 28) (v := .d (.fl undef)) rfl (on rfl rfl rfl h3) ?_
      refine rg_put (d := 29) (v := .d (.fl (.bool true))) rfl (og rfl (op_pick rfl rfl (by rw [h3]; rfl) rfl)) ?_
      refine rg_put (d := 30) (v := .d (.fl (.bool true))) rfl (og rfl (op_move rfl rfl rfl)) ?_
      refine rg_put (d := 31) (v := .d (.fl undef)) rfl (on rfl rfl rfl rfl) ?_
      refine rg_put (d := 32) (v := .d (.fl undef)) rfl (on rfl rfl rfl rfl) ?_
      refine rg_put (d := 33) (v := .d (.fl undef)) rfl (on rfl rfl rfl rfl) ?_
      refine rg_put (d := 34) (v := .d (.fl undef)) rfl (on rfl rfl rfl rfl) ?_
      refine rg_put (d := 35) (v := .d (.fl (.bool true))) rfl (og rfl (op_pick rfl rfl rfl rfl)) ?_
      refine rg_put (d := 36) (v := .d (.fl (.bool true))) rfl (og rfl (op_move rfl rfl rfl)) ?_
      refine rg_put (d := 37) (v := .d (.fl undef)) rfl (on rfl rfl rfl rfl) ?_
      refine rg_put (d := 38) (v := .d (.fl undef)) rfl (on rfl rfl rfl rfl) ?_
      refine rg_put (d := 39) (v := .d (.fl undef)) rfl (on rfl rfl rfl rfl) ?_
      refine rg_put (d := 40) (v := .d (.fl undef)) rfl (on rfl rfl rfl rfl) ?_
      refine rg_put (d := 41) (v := .d (.fl (.bool true))) rfl (og rfl (op_pick rfl rfl rfl rfl)) ?_
      refine rg_put (d := 42) (v := .d (.fl (.bool true))) rfl (og rfl (op_move rfl rfl rfl)) ?_
      refine rg_put (d := 43) (v := .d (.fl undef)) rfl (on rfl rfl rfl rfl) ?_
      refine rg_put (d := 44) (v := .d (.fl undef)) rfl (on rfl rfl rfl rfl) ?_
      refine rg_put (d := 45) (v := .d (.fl undef)) rfl (on rfl rfl rfl rfl) ?_
      refine rg_put (d := 46) (v := .d (.fl undef)) rfl (on rfl rfl rfl rfl) ?_
      refine rg_put (d := 47) (v := .d (.fl (.bool true))) rfl (og rfl (op_pick rfl rfl rfl rfl)) ?_
      refine rg_put (d := 48) (v := .d (.fl (.bool true))) rfl (og rfl (op_move rfl rfl rfl)) ?_
      refine rg_put (d := 49) (v := .d (.fl undef)) rfl (on rfl rfl rfl rfl) ?_
      refine rg_put (d := 50) (v := .d (.fl undef)) rfl (on rfl rfl rfl rfl) ?_
      refine rg_put (d := 51) (v := .d (.fl undef)) rfl (on rfl rfl rfl rfl) ?_
      refine rg_put (d := 52) (v := .d (.fl undef)) rfl (on rfl rfl rfl rfl) ?_
      refine rg_put (d := 53) (v := .d (.fl (.bool true))) rfl (og rfl (op_pick rfl rfl rfl rfl)) ?_
      refine rg_put (d := 54) (v := .d (.fl (.bool true))) rfl (og rfl (op_move rfl rfl rfl)) ?_
      refine rg_put (d := 55) (v := .d (.fl undef)) rfl (on rfl rfl rfl rfl) ?_
      refine rg_put (d := 56) (v := .d (.fl undef)) rfl (on rfl rfl rfl rfl) ?_
      refine rg_put (d := 57) (v := .d (.fl undef)) rfl (on rfl rfl rfl rfl) ?_
      refine rg_put (d := 58) (v := .d (.fl undef)) rfl (on rfl rfl rfl rfl) ?_
      refine rg_put (d := 59) (v := .d (.fl (.bool true))) rfl (og rfl (op_pick rfl rfl rfl rfl)) ?_
      refine rg_put (d := 60) (v := .d (.fl (.bool true))) rfl (og rfl (op_move rfl rfl rfl)) ?_
      refine rg_put (d := 61) (v := .d (.fl undef)) rfl (on rfl rfl rfl rfl) ?_
      refine rg_put (d := 62) (v := .d (.fl undef)) rfl (on rfl rfl rfl rfl) ?_
      refine rg_put (d := 63) (v := .d (.fl undef)) rfl (on rfl rfl rfl rfl) ?_
      refine rg_put (d := 64) (v := .d (.fl undef)) rfl (on rfl rfl rfl rfl) ?_
      refine rg_put (d := 65) (v := .d (.fl undef)) rfl (on rfl rfl rfl rfl) ?_
      refine rg_put (d := 66) (v := .d (.fl (.bool true))) rfl (og rfl (op_pick rfl rfl rfl rfl)) ?_
      refine rg_put (d := 67) (v := .d (.fl (.bool true))) rfl (og rfl (op_move rfl rfl rfl)) ?_
      refine rg_put (d := 68) (v := .d (.fl undef)) rfl (on rfl rfl rfl rfl) ?_
      refine rg_put (d := 69) (v := .d (.fl undef)) rfl (on rfl rfl rfl rfl) ?_
      refine rg_put (d := 70) (v := .d (.fl undef)) rfl (on rfl rfl rfl rfl) ?_
      refine rg_put (d := 71) (v := .d (.fl undef)) rfl (on rfl rfl rfl rfl) ?_
      refine rg_put (d := 72) (v := .d (.fl undef)) rfl (on rfl rfl rfl rfl) ?_
      refine rg_put (d := 73) (v := .d (.fl (.bool true))) rfl (og rfl (op_pick rfl rfl rfl rfl)) ?_
      refine rg_done rfl ?_
      refine a_condK rfl rfl ?_
      refine a_rseq ?_
      refine rg_put (d := 2) (v := .d (.fl (.bool true))) rfl (og rfl (op_assign rfl rfl rfl)) ?_
      refine rg_done rfl ?_
      refine a_ret ?_
      show ∃ ds, ResL _ _ _ ds ∧ RV.of ds = _
      refine ⟨[.fl (.bool true)], (.cons (.tmp rfl (.d _)) .nil), ?_⟩
      have hu : bd s = false := by unfold bd lnB; simp only [h1, h3, Bool.true_and, Bool.false_and, Bool.and_true, Bool.and_false, Bool.or_true, Bool.or_false, Bool.true_or, Bool.false_or, Bool.not_true, Bool.not_false] <;> rfl
      rw [hu]; rfl
  · skip
    have h54 := t_dec h1
    refine rg_put (d := 19) (v := .d (.fl undef)) rfl (on rfl rfl rfl h1) ?_
    refine rg_put (d := 20) (v := .d (.fl undef)) rfl (on rfl rfl rfl h1) ?_
    refine rg_put (d := 21) (v := .d (.fl undef)) rfl (on rfl rfl rfl h1) ?_
    refine rg_put (d := 22) (v := .d (.fl undef)) rfl (on rfl rfl rfl h1) ?_
    refine rg_put (d := 23) (v := .d (.fl (.bool true))) rfl (og rfl (op_pick rfl rfl (by rw [h1]; rfl) rfl)) ?_
    refine rg_put (d := 24) (v := .d (.fl (.bool true))) rfl (og rfl (op_move rfl rfl rfl)) ?_
    refine rg_put (d := 25) (v := .d (.fl undef)) rfl (on rfl rfl rfl rfl) ?_
    refine rg_put (d := 26) (v := .d (.fl undef)) rfl (on rfl rfl rfl rfl) ?_
    refine rg_put (d := 27) (v := .d (.fl undef)) rfl (on rfl rfl rfl rfl) ?_
    refine rg_put (d := 28) (v := .d (.fl undef)) rfl (on rfl rfl rfl rfl) ?_
    refine rg_put (d := 29) (v := .d (.fl (.bool true))) rfl (og rfl (op_pick rfl rfl rfl rfl)) ?_
    refine rg_put (d := 30) (v := .d (.fl (.bool true))) rfl (og rfl (op_move rfl rfl rfl)) ?_
    refine rg_put (d := 31) (v := .d (.fl undef)) rfl (on rfl rfl rfl rfl) ?_
    refine rg_put (d := 32) (v := .d (.fl undef)) rfl (on rfl rfl rfl rfl) ?_
    refine rg_put (d := 33) (v := .d (.fl undef)) rfl (on rfl rfl rfl rfl) ?_
    refine rg_put (d := 34) (v := .d (.fl undef)) rfl (on rfl rfl rfl rfl) ?_
    refine rg_put (d := 35) (v := .d (.fl (.bool true))) rfl (og rfl (op_pick rfl rfl rfl rfl)) ?_
    refine rg_put (d := 36) (v := .d (.fl (.bool true))) rfl (og rfl (op_move rfl rfl rfl)) ?_
    refine rg_put (d := 37) (v := .d (.fl undef)) rfl (on rfl rfl rfl rfl) ?_
    refine rg_put (d := 38) (v := .d (.fl undef)) rfl (on rfl rfl rfl rfl) ?_
    refine rg_put (d := 39) (v := .d (.fl undef)) rfl (on rfl rfl rfl rfl) ?_
    refine rg_put (d := 40) (v := .d (.fl undef)) rfl (on rfl rfl rfl rfl) ?_
    refine rg_put (d := 41) (v := .d (.fl (.bool true))) rfl (og rfl (op_pick rfl rfl rfl rfl)) ?_
    refine rg_put (d := 42) (v := .d (.fl (.bool true))) rfl (og rfl (op_move rfl rfl rfl)) ?_
    refine rg_put (d := 43) (v := .d (.fl undef)) rfl (on rfl rfl rfl rfl) ?_
    refine rg_put (d := 44) (v := .d (.fl undef)) rfl (on rfl rfl rfl rfl) ?_
    refine rg_put (d := 45) (v := .d (.fl undef)) rfl (on rfl rfl rfl rfl) ?_
    refine rg_put (d := 46) (v := .d (.fl undef)) rfl (on rfl rfl rfl rfl) ?_
    refine rg_put (d := 47) (v := .d (.fl (.bool true))) rfl (og rfl (op_pick rfl rfl rfl rfl)) ?_
    refine rg_put (d := 48) (v := .d (.fl (.bool true))) rfl (og rfl (op_move rfl rfl rfl)) ?_
    refine rg_put (d := 49) (v := .d (.fl undef)) rfl (on rfl rfl rfl rfl) ?_
    refine rg_put (d := 50) (v := .d (.fl undef)) rfl (on rfl rfl rfl rfl) ?_
    refine rg_put (d := 51) (v := .d (.fl undef)) rfl (on rfl rfl rfl rfl) ?_
    refine rg_put (d := 52) (v := .d (.fl undef)) rfl (on rfl rfl rfl rfl) ?_
    refine rg_put (d := 53) (v := .d (.fl (.bool true))) rfl (og rfl (op_pick rfl rfl rfl rfl)) ?_
    refine rg_put (d := 54) (v := .d (.fl (.bool true))) rfl (og rfl (op_move rfl rfl rfl)) ?_
    refine rg_put (d := 55) (v := .d (.fl undef)) rfl (on rfl rfl rfl rfl) ?_
    refine rg_put (d := 56) (v := .d (.fl undef)) rfl (on rfl rfl rfl rfl) ?_
    refine rg_put (d := 57) (v := .d (.fl undef)) rfl (on rfl rfl rfl rfl) ?_
    refine rg_put (d := 58) (v := .d (.fl undef)) rfl (on rfl rfl rfl rfl) ?_
    refine rg_put (d := 59) (v := .d (.fl (.bool true))) rfl (og rfl (op_pick rfl rfl rfl rfl)) ?_
    refine rg_put (d := 60) (v := .d (.fl (.bool true))) rfl (og rfl (op_move rfl rfl rfl)) ?_
    refine rg_put (d := 61) (v := .d (.fl undef)) rfl (on rfl rfl rfl rfl) ?_
    refine rg_put (d := 62) (v := .d (.fl undef)) rfl (on rfl rfl rfl rfl) ?_
    refine rg_put (d := 63) (v := .d (.fl undef)) rfl (on rfl rfl rfl rfl) ?_
    refine rg_put (d := 64) (v := .d (.fl undef)) rfl (on rfl rfl rfl rfl) ?_
    refine rg_put (d := 65) (v := .d (.fl undef)) rfl (on rfl rfl rfl rfl) ?_
    refine rg_put (d := 66) (v := .d (.fl (.bool true))) rfl (og rfl (op_pick rfl rfl rfl rfl)) ?_
    refine rg_put (d := 67) (v := .d (.fl (.bool true))) rfl (og rfl (op_move rfl rfl rfl)) ?_
    refine rg_put (d := 68) (v := .d (.fl undef)) rfl (on rfl rfl rfl rfl) ?_
    refine rg_put (d := 69) (v := .d (.fl undef)) rfl (on rfl rfl rfl rfl) ?_
    refine rg_put (d := 70) (v := .d (.fl undef)) rfl (on rfl rfl rfl rfl) ?_
    refine rg_put (d := 71) (v := .d (.fl undef)) rfl (on rfl rfl rfl rfl) ?_
    refine rg_put (d := 72) (v := .d (.fl undef)) rfl (on rfl rfl rfl rfl) ?_
    refine rg_put (d := 73) (v := .d (.fl (.bool true))) rfl (og rfl (op_pick rfl rfl rfl rfl)) ?_
    refine rg_done rfl ?_
    refine a_condK rfl rfl ?_
    refine a_rseq ?_
    refine rg_put (d := 2) (v := .d (.fl (.bool true))) rfl (og rfl (op_assign rfl rfl rfl)) ?_
    refine rg_done rfl ?_
    refine a_ret ?_
    show ∃ ds, ResL _ _ _ ds ∧ RV.of ds = _
    refine ⟨[.fl (.bool true)], (.cons (.tmp rfl (.d _)) .nil), ?_⟩
    have hu : bd s = false := by unfold bd lnB; simp only [h1, Bool.true_and, Bool.false_and, Bool.and_true, Bool.and_false, Bool.or_true, Bool.or_false, Bool.true_or, Bool.false_or, Bool.not_true, Bool.not_false] <;> rfl
    rw [hu]; rfl
theorem len_lt {n k : Nat} (h : n ≤ k) (hk : k ≤ 9223372036854775807) : n ≤ 9223372036854775807 := by omega
theorem dtc_len {s : Sa} {x : So} (hs : okSt s) : (dtc s x).1.length ≤ 9223372036854775807 := by
  unfold dtc
  split
  · have h1 := cat_len (g := gR x) (l := s.res.rej) (c := 1) (fun e _ => gR_len x e) _ (Nat.le_refl _)
    have h2 := cat_len (g := gPa s.res x) (l := s.res.pass) (c := 4000) (fun e _ => gPa_len x hs.2.2.1 e) _ (Nat.le_refl _)
    have h3 := hs.2.2.1.2.2.2.1
    have h4 := hs.2.2.1.2.2.2.2.2.2.2.2.1
    simp only [List.length_append, List.length_cons, List.length_nil]
    omega
  · simp
theorem psg_len {s : Sa} {id : ByteArray} (hs : okSt s) : (psg s id).1.length ≤ 9223372036854775807 := by
  unfold psg
  split
  · have := fct_len s.res id hs.2.2.1.1 hs.2.2.1.2.1
    show (fct s.res id).length ≤ _
    omega
  · simp
theorem chg_len {s : Sa} {key : ByteArray} (hs : okSt s) : (chg s key).1.length ≤ 9223372036854775807 := by
  by_cases h : decide (cix s.res.chg key < 0) = true
  · rw [chg_no h]; simp
  · have h' : decide (cix s.res.chg key < 0) = false := by cases hb : decide (cix s.res.chg key < 0) with
      | true => exact absurd hb h
      | false => rfl
    rw [chg_yes h']
    have hi := cix_in s.res.chg key
    have hn := of_decide_eq_false h'
    have h1 := cat_len (g := gL) (l := (ix s.res.chg (cix s.res.chg key).toNat).lines) (c := 1) (fun x _ => gL_len x) _ (Nat.le_refl _)
    have h2 := hs.2.2.1.2.2.2.2.2.2.2.1 (cix s.res.chg key).toNat (by omega)
    have h3 := tF_len (r := s.res) (key := key) hs.2.2.1
    have h4 := yF_len (r := s.res) (key := key)
    have h5 : (aF s (ix s.res.chg (cix s.res.chg key).toNat)).length ≤ 1 := by unfold aF; split <;> simp
    have h6 : (pF s key).length ≤ 1 := by unfold pF; split <;> simp
    simp only [List.length_append, List.length_cons, List.length_nil]
    omega

set_option maxHeartbeats 4000000 in
set_option maxRecDepth 100000 in
theorem law3 (s : Sa) (x : So) (ho : okSa s) (hx : okS x) : CtrK Tryd.prog KK 3 [.ag (eSa s), .ag (eSo x)] (.d (.fl (.bool true))) := by
  refine ctrK (n := 35) (rs := #[.tmp 4]) (L := [(0, .d (.ag (eSa s))), (1, .d (.ag (eSo x)))]) Tryd.func3 rfl rfl rfl rfl rfl (fun w0 U0 hG => ?_)
  refine a_rseq ?_
  refine rg_nam (d := 2) (v := .pt 101 0) (m := 101) (nw := [(101, .bx 64 (eSa s))]) rfl (og rfl (of_eff (op_box 101 rfl rfl rfl rfl) rfl)) rfl ?_
  refine rg_nam (d := 3) (v := .pt 102 0) (m := 102) (nw := [(102, .bx 66 (eSo x))]) rfl (og rfl (of_eff (op_box 102 rfl rfl rfl rfl) rfl)) rfl ?_
  refine rg_put (d := 4) (v := .d (.fl (.bool false))) rfl (og rfl (op_assign rfl rfl rfl)) ?_
  refine rg_done rfl ?_
  refine a_seq ?_
  refine a_rseq ?_
  refine rg_put (d := 9) (v := .d (.ag (eSa s))) rfl (og rfl (of_eff (s_load_pts rfl Tryd.underlying64 rfl ti64 rfl rfl rfl rfl) rfl)) ?_
  refine rg_put (d := 10) (v := .d (.fl (.bool ((!(bd s)))))) rfl (og rfl (op_call rfl Tryd.func7 nm7 rfl (.cons rfl (.d _) .nil) (great7 s) rfl)) ?_
  refine rg_done rfl ?_
  refine a_cond rfl (fun h1 => ?_) (fun h1 => ?_)
  · skip
    have h2 := t_not h1
    refine a_rseq ?_
    refine rg_put (d := 11) (v := .d (.fl (.bool true))) rfl (og rfl (op_callK kkst hG rfl Tryd.func8 nm8 rfl .nil awake8 rfl)) ?_
    refine rg_put (d := 4) (v := .d (.fl (.bool true))) rfl (og rfl (op_assign rfl rfl rfl)) ?_
    refine rg_done rfl ?_
    refine a_ret ?_
    show ∃ ds, ResL _ _ _ ds ∧ RV.of ds = _
    refine ⟨[.fl (.bool true)], (.cons (.tmp rfl (.d _)) .nil), ?_⟩
    rfl
  · skip
    have h3 := f_not h1
    have hs := bd_ok ho h3
    refine a_skip ?_
    show A _ _ _ _ _ _ _
    refine a_rseq ?_
    refine rg_put (d := 13) (v := .d (.ag (eSa s))) rfl (og rfl (of_eff (s_load_pts rfl Tryd.underlying64 rfl ti64 rfl rfl rfl rfl) rfl)) ?_
    refine rg_put (d := 14) (v := .d (.ag (eSo x))) rfl (og rfl (of_eff (s_load_pts rfl Tryd.underlying66 rfl ti66 rfl rfl rfl rfl) rfl)) ?_
    refine rg_put (d := 15) (v := .tu [.sl 3 (List.map eFc ((dtc s x).1)), .fl (.int .i64 ((dtc s x).2))]) rfl (og rfl (op_callK kkst hG rfl Tryd.func9 nm9 rfl (.cons rfl (.d _) (.cons rfl (.d _) .nil)) (dtc9 s x hs hx) rfl)) ?_
    refine rg_put (d := 12) (v := .tu [.sl 3 (List.map eFc ((dtc s x).1)), .fl (.int .i64 ((dtc s x).2))]) rfl (og rfl (op_move rfl rfl rfl)) ?_
    refine rg_put (d := 16) (v := .d (.sl 3 (List.map eFc ((dtc s x).1)))) rfl (og rfl (op_extract rfl rfl rfl rfl)) ?_
    refine rg_put (d := 17) (v := .d (.fl (.int .i64 ((dtc s x).2)))) rfl (og rfl (op_extract rfl rfl rfl rfl)) ?_
    refine rg_put (d := 5) (v := .d (.sl 3 (List.map eFc ((dtc s x).1)))) rfl (og rfl (op_assign rfl rfl rfl)) ?_
    refine rg_put (d := 6) (v := .d (.fl (.int .i64 ((dtc s x).2)))) rfl (og rfl (op_assign rfl rfl rfl)) ?_
    refine rg_done rfl ?_
    refine a_rseq ?_
    refine rg_put (d := 19) (v := .d (.ag (eSa s))) rfl (og rfl (of_eff (s_load_pts rfl Tryd.underlying64 rfl ti64 rfl rfl rfl rfl) rfl)) ?_
    refine rg_put (d := 20) (v := .d (.ag (eSo x))) rfl (og rfl (of_eff (s_load_pts rfl Tryd.underlying66 rfl ti66 rfl rfl rfl rfl) rfl)) ?_
    refine rg_put (d := 21) (v := .tu [.sl 3 (List.map eFc ((dtc s x).1)), .fl (.int .i64 ((dtc s x).2))]) rfl (og rfl (op_call rfl Tryd.func10 nm10 rfl (.cons rfl (.d _) (.cons rfl (.d _) .nil)) (dtc10 s x hs hx) rfl)) ?_
    refine rg_put (d := 18) (v := .tu [.sl 3 (List.map eFc ((dtc s x).1)), .fl (.int .i64 ((dtc s x).2))]) rfl (og rfl (op_move rfl rfl rfl)) ?_
    refine rg_put (d := 22) (v := .d (.sl 3 (List.map eFc ((dtc s x).1)))) rfl (og rfl (op_extract rfl rfl rfl rfl)) ?_
    refine rg_put (d := 23) (v := .d (.fl (.int .i64 ((dtc s x).2)))) rfl (og rfl (op_extract rfl rfl rfl rfl)) ?_
    refine rg_put (d := 7) (v := .d (.sl 3 (List.map eFc ((dtc s x).1)))) rfl (og rfl (op_assign rfl rfl rfl)) ?_
    refine rg_put (d := 8) (v := .d (.fl (.int .i64 ((dtc s x).2)))) rfl (og rfl (op_assign rfl rfl rfl)) ?_
    refine rg_done rfl ?_
    refine a_rseq ?_
    refine rg_put (d := 24) (v := .d (.sl 3 (List.map eFc ((dtc s x).1)))) rfl (og rfl (op_move rfl rfl rfl)) ?_
    refine rg_put (d := 25) (v := .d (.sl 3 (List.map eFc ((dtc s x).1)))) rfl (og rfl (op_move rfl rfl rfl)) ?_
    refine rg_put (d := 26) (v := .d (.fl (.bool true))) rfl (og rfl (op_call rfl Tryd.func11 nm11 rfl (.cons rfl (.d _) (.cons rfl (.d _) .nil)) (same11 ((dtc s x).1) (dtc_len hs)) rfl)) ?_
    refine rg_put (d := 27) (v := .d (.fl (.bool true))) rfl (og rfl (op_move rfl rfl rfl)) ?_
    refine rg_put (d := 28) (v := .d (.fl (.int .i64 ((dtc s x).2)))) rfl (oy rfl rfl rfl rfl (op_move rfl rfl rfl)) ?_
    refine rg_put (d := 29) (v := .d (.fl (.int .i64 ((dtc s x).2)))) rfl (oy rfl rfl rfl rfl (op_move rfl rfl rfl)) ?_
    refine rg_put (d := 30) (v := .d (.fl (.bool (((dtc s x).2 == (dtc s x).2))))) rfl (oy rfl rfl rfl rfl (op_bin rfl rfl rfl (b_eql _ _ _ _) rfl)) ?_
    refine rg_put (d := 31) (v := .d (.fl (.bool (((dtc s x).2 == (dtc s x).2))))) rfl (og rfl (op_pick rfl rfl rfl rfl)) ?_
    refine rg_put (d := 32) (v := .d (.fl (.bool (((dtc s x).2 == (dtc s x).2))))) rfl (og rfl (op_move rfl rfl rfl)) ?_
    refine rg_put (d := 33) (v := .d (.fl (.bool true))) rfl (oy rfl rfl rfl (eq_self_b _) (op_callK kkst hG rfl Tryd.func8 nm8 rfl .nil awake8 rfl)) ?_
    refine rg_put (d := 34) (v := .d (.fl (.bool true))) rfl (og rfl (op_pick rfl rfl (by rw [(eq_self_b _)]; rfl) rfl)) ?_
    refine rg_put (d := 4) (v := .d (.fl (.bool true))) rfl (og rfl (op_assign rfl rfl rfl)) ?_
    refine rg_done rfl ?_
    refine a_ret ?_
    show ∃ ds, ResL _ _ _ ds ∧ RV.of ds = _
    refine ⟨[.fl (.bool true)], (.cons (.tmp rfl (.d _)) .nil), ?_⟩
    rfl
set_option maxHeartbeats 4000000 in
set_option maxRecDepth 100000 in
theorem law4 (s : Sa) (id : ByteArray) (ho : okSa s) : CtrK Tryd.prog KK 4 [.ag (eSa s), .fl (.string id)] (.d (.fl (.bool true))) := by
  refine ctrK (n := 35) (rs := #[.tmp 4]) (L := [(0, .d (.ag (eSa s))), (1, .d (.fl (.string id)))]) Tryd.func4 rfl rfl rfl rfl rfl (fun w0 U0 hG => ?_)
  refine a_rseq ?_
  refine rg_nam (d := 2) (v := .pt 101 0) (m := 101) (nw := [(101, .bx 64 (eSa s))]) rfl (og rfl (of_eff (op_box 101 rfl rfl rfl rfl) rfl)) rfl ?_
  refine rg_put (d := 4) (v := .d (.fl (.bool false))) rfl (og rfl (op_assign rfl rfl rfl)) ?_
  refine rg_done rfl ?_
  refine a_seq ?_
  refine a_rseq ?_
  refine rg_put (d := 9) (v := .d (.ag (eSa s))) rfl (og rfl (of_eff (s_load_pts rfl Tryd.underlying64 rfl ti64 rfl rfl rfl rfl) rfl)) ?_
  refine rg_put (d := 10) (v := .d (.fl (.bool ((!(bd s)))))) rfl (og rfl (op_call rfl Tryd.func7 nm7 rfl (.cons rfl (.d _) .nil) (great7 s) rfl)) ?_
  refine rg_done rfl ?_
  refine a_cond rfl (fun h1 => ?_) (fun h1 => ?_)
  · skip
    have h2 := t_not h1
    refine a_rseq ?_
    refine rg_put (d := 11) (v := .d (.fl (.bool true))) rfl (og rfl (op_callK kkst hG rfl Tryd.func8 nm8 rfl .nil awake8 rfl)) ?_
    refine rg_put (d := 4) (v := .d (.fl (.bool true))) rfl (og rfl (op_assign rfl rfl rfl)) ?_
    refine rg_done rfl ?_
    refine a_ret ?_
    show ∃ ds, ResL _ _ _ ds ∧ RV.of ds = _
    refine ⟨[.fl (.bool true)], (.cons (.tmp rfl (.d _)) .nil), ?_⟩
    rfl
  · skip
    have h3 := f_not h1
    have hs := bd_ok ho h3
    refine a_skip ?_
    show A _ _ _ _ _ _ _
    refine a_rseq ?_
    refine rg_put (d := 13) (v := .d (.ag (eSa s))) rfl (og rfl (of_eff (s_load_pts rfl Tryd.underlying64 rfl ti64 rfl rfl rfl rfl) rfl)) ?_
    refine rg_put (d := 14) (v := .d (.fl (.string id))) rfl (og rfl (op_move rfl rfl rfl)) ?_
    refine rg_put (d := 15) (v := .tu [.sl 3 (List.map eFc ((psg s id).1)), .fl (.int .i64 ((psg s id).2))]) rfl (og rfl (op_call rfl Tryd.func12 nm12 rfl (.cons rfl (.d _) (.cons rfl (.d _) .nil)) (psg12 s id hs) rfl)) ?_
    refine rg_put (d := 12) (v := .tu [.sl 3 (List.map eFc ((psg s id).1)), .fl (.int .i64 ((psg s id).2))]) rfl (og rfl (op_move rfl rfl rfl)) ?_
    refine rg_put (d := 16) (v := .d (.sl 3 (List.map eFc ((psg s id).1)))) rfl (og rfl (op_extract rfl rfl rfl rfl)) ?_
    refine rg_put (d := 17) (v := .d (.fl (.int .i64 ((psg s id).2)))) rfl (og rfl (op_extract rfl rfl rfl rfl)) ?_
    refine rg_put (d := 5) (v := .d (.sl 3 (List.map eFc ((psg s id).1)))) rfl (og rfl (op_assign rfl rfl rfl)) ?_
    refine rg_put (d := 6) (v := .d (.fl (.int .i64 ((psg s id).2)))) rfl (og rfl (op_assign rfl rfl rfl)) ?_
    refine rg_done rfl ?_
    refine a_rseq ?_
    refine rg_put (d := 19) (v := .d (.ag (eSa s))) rfl (og rfl (of_eff (s_load_pts rfl Tryd.underlying64 rfl ti64 rfl rfl rfl rfl) rfl)) ?_
    refine rg_put (d := 20) (v := .d (.fl (.string id))) rfl (og rfl (op_move rfl rfl rfl)) ?_
    refine rg_put (d := 21) (v := .tu [.sl 3 (List.map eFc ((psg s id).1)), .fl (.int .i64 ((psg s id).2))]) rfl (og rfl (op_call rfl Tryd.func13 nm13 rfl (.cons rfl (.d _) (.cons rfl (.d _) .nil)) (psg13 s id hs) rfl)) ?_
    refine rg_put (d := 18) (v := .tu [.sl 3 (List.map eFc ((psg s id).1)), .fl (.int .i64 ((psg s id).2))]) rfl (og rfl (op_move rfl rfl rfl)) ?_
    refine rg_put (d := 22) (v := .d (.sl 3 (List.map eFc ((psg s id).1)))) rfl (og rfl (op_extract rfl rfl rfl rfl)) ?_
    refine rg_put (d := 23) (v := .d (.fl (.int .i64 ((psg s id).2)))) rfl (og rfl (op_extract rfl rfl rfl rfl)) ?_
    refine rg_put (d := 7) (v := .d (.sl 3 (List.map eFc ((psg s id).1)))) rfl (og rfl (op_assign rfl rfl rfl)) ?_
    refine rg_put (d := 8) (v := .d (.fl (.int .i64 ((psg s id).2)))) rfl (og rfl (op_assign rfl rfl rfl)) ?_
    refine rg_done rfl ?_
    refine a_rseq ?_
    refine rg_put (d := 24) (v := .d (.sl 3 (List.map eFc ((psg s id).1)))) rfl (og rfl (op_move rfl rfl rfl)) ?_
    refine rg_put (d := 25) (v := .d (.sl 3 (List.map eFc ((psg s id).1)))) rfl (og rfl (op_move rfl rfl rfl)) ?_
    refine rg_put (d := 26) (v := .d (.fl (.bool true))) rfl (og rfl (op_call rfl Tryd.func11 nm11 rfl (.cons rfl (.d _) (.cons rfl (.d _) .nil)) (same11 ((psg s id).1) (psg_len hs)) rfl)) ?_
    refine rg_put (d := 27) (v := .d (.fl (.bool true))) rfl (og rfl (op_move rfl rfl rfl)) ?_
    refine rg_put (d := 28) (v := .d (.fl (.int .i64 ((psg s id).2)))) rfl (oy rfl rfl rfl rfl (op_move rfl rfl rfl)) ?_
    refine rg_put (d := 29) (v := .d (.fl (.int .i64 ((psg s id).2)))) rfl (oy rfl rfl rfl rfl (op_move rfl rfl rfl)) ?_
    refine rg_put (d := 30) (v := .d (.fl (.bool (((psg s id).2 == (psg s id).2))))) rfl (oy rfl rfl rfl rfl (op_bin rfl rfl rfl (b_eql _ _ _ _) rfl)) ?_
    refine rg_put (d := 31) (v := .d (.fl (.bool (((psg s id).2 == (psg s id).2))))) rfl (og rfl (op_pick rfl rfl rfl rfl)) ?_
    refine rg_put (d := 32) (v := .d (.fl (.bool (((psg s id).2 == (psg s id).2))))) rfl (og rfl (op_move rfl rfl rfl)) ?_
    refine rg_put (d := 33) (v := .d (.fl (.bool true))) rfl (oy rfl rfl rfl (eq_self_b _) (op_callK kkst hG rfl Tryd.func8 nm8 rfl .nil awake8 rfl)) ?_
    refine rg_put (d := 34) (v := .d (.fl (.bool true))) rfl (og rfl (op_pick rfl rfl (by rw [(eq_self_b _)]; rfl) rfl)) ?_
    refine rg_put (d := 4) (v := .d (.fl (.bool true))) rfl (og rfl (op_assign rfl rfl rfl)) ?_
    refine rg_done rfl ?_
    refine a_ret ?_
    show ∃ ds, ResL _ _ _ ds ∧ RV.of ds = _
    refine ⟨[.fl (.bool true)], (.cons (.tmp rfl (.d _)) .nil), ?_⟩
    rfl
set_option maxHeartbeats 4000000 in
set_option maxRecDepth 100000 in
theorem law5 (s : Sa) (key : ByteArray) (ho : okSa s) : CtrK Tryd.prog KK 5 [.ag (eSa s), .fl (.string key)] (.d (.fl (.bool true))) := by
  refine ctrK (n := 35) (rs := #[.tmp 4]) (L := [(0, .d (.ag (eSa s))), (1, .d (.fl (.string key)))]) Tryd.func5 rfl rfl rfl rfl rfl (fun w0 U0 hG => ?_)
  refine a_rseq ?_
  refine rg_nam (d := 2) (v := .pt 101 0) (m := 101) (nw := [(101, .bx 64 (eSa s))]) rfl (og rfl (of_eff (op_box 101 rfl rfl rfl rfl) rfl)) rfl ?_
  refine rg_put (d := 4) (v := .d (.fl (.bool false))) rfl (og rfl (op_assign rfl rfl rfl)) ?_
  refine rg_done rfl ?_
  refine a_seq ?_
  refine a_rseq ?_
  refine rg_put (d := 9) (v := .d (.ag (eSa s))) rfl (og rfl (of_eff (s_load_pts rfl Tryd.underlying64 rfl ti64 rfl rfl rfl rfl) rfl)) ?_
  refine rg_put (d := 10) (v := .d (.fl (.bool ((!(bd s)))))) rfl (og rfl (op_call rfl Tryd.func7 nm7 rfl (.cons rfl (.d _) .nil) (great7 s) rfl)) ?_
  refine rg_done rfl ?_
  refine a_cond rfl (fun h1 => ?_) (fun h1 => ?_)
  · skip
    have h2 := t_not h1
    refine a_rseq ?_
    refine rg_put (d := 11) (v := .d (.fl (.bool true))) rfl (og rfl (op_callK kkst hG rfl Tryd.func8 nm8 rfl .nil awake8 rfl)) ?_
    refine rg_put (d := 4) (v := .d (.fl (.bool true))) rfl (og rfl (op_assign rfl rfl rfl)) ?_
    refine rg_done rfl ?_
    refine a_ret ?_
    show ∃ ds, ResL _ _ _ ds ∧ RV.of ds = _
    refine ⟨[.fl (.bool true)], (.cons (.tmp rfl (.d _)) .nil), ?_⟩
    rfl
  · skip
    have h3 := f_not h1
    have hs := bd_ok ho h3
    refine a_skip ?_
    show A _ _ _ _ _ _ _
    refine a_rseq ?_
    refine rg_put (d := 13) (v := .d (.ag (eSa s))) rfl (og rfl (of_eff (s_load_pts rfl Tryd.underlying64 rfl ti64 rfl rfl rfl rfl) rfl)) ?_
    refine rg_put (d := 14) (v := .d (.fl (.string key))) rfl (og rfl (op_move rfl rfl rfl)) ?_
    refine rg_put (d := 15) (v := .tu [.sl 3 (List.map eFc ((chg s key).1)), .fl (.int .i64 ((chg s key).2))]) rfl (og rfl (op_callK kkst hG rfl Tryd.func14 nm14 rfl (.cons rfl (.d _) (.cons rfl (.d _) .nil)) (chg14 s key hs) rfl)) ?_
    refine rg_put (d := 12) (v := .tu [.sl 3 (List.map eFc ((chg s key).1)), .fl (.int .i64 ((chg s key).2))]) rfl (og rfl (op_move rfl rfl rfl)) ?_
    refine rg_put (d := 16) (v := .d (.sl 3 (List.map eFc ((chg s key).1)))) rfl (og rfl (op_extract rfl rfl rfl rfl)) ?_
    refine rg_put (d := 17) (v := .d (.fl (.int .i64 ((chg s key).2)))) rfl (og rfl (op_extract rfl rfl rfl rfl)) ?_
    refine rg_put (d := 5) (v := .d (.sl 3 (List.map eFc ((chg s key).1)))) rfl (og rfl (op_assign rfl rfl rfl)) ?_
    refine rg_put (d := 6) (v := .d (.fl (.int .i64 ((chg s key).2)))) rfl (og rfl (op_assign rfl rfl rfl)) ?_
    refine rg_done rfl ?_
    refine a_rseq ?_
    refine rg_put (d := 19) (v := .d (.ag (eSa s))) rfl (og rfl (of_eff (s_load_pts rfl Tryd.underlying64 rfl ti64 rfl rfl rfl rfl) rfl)) ?_
    refine rg_put (d := 20) (v := .d (.fl (.string key))) rfl (og rfl (op_move rfl rfl rfl)) ?_
    refine rg_put (d := 21) (v := .tu [.sl 3 (List.map eFc ((chg s key).1)), .fl (.int .i64 ((chg s key).2))]) rfl (og rfl (op_call rfl Tryd.func15 nm15 rfl (.cons rfl (.d _) (.cons rfl (.d _) .nil)) (chg15 s key hs) rfl)) ?_
    refine rg_put (d := 18) (v := .tu [.sl 3 (List.map eFc ((chg s key).1)), .fl (.int .i64 ((chg s key).2))]) rfl (og rfl (op_move rfl rfl rfl)) ?_
    refine rg_put (d := 22) (v := .d (.sl 3 (List.map eFc ((chg s key).1)))) rfl (og rfl (op_extract rfl rfl rfl rfl)) ?_
    refine rg_put (d := 23) (v := .d (.fl (.int .i64 ((chg s key).2)))) rfl (og rfl (op_extract rfl rfl rfl rfl)) ?_
    refine rg_put (d := 7) (v := .d (.sl 3 (List.map eFc ((chg s key).1)))) rfl (og rfl (op_assign rfl rfl rfl)) ?_
    refine rg_put (d := 8) (v := .d (.fl (.int .i64 ((chg s key).2)))) rfl (og rfl (op_assign rfl rfl rfl)) ?_
    refine rg_done rfl ?_
    refine a_rseq ?_
    refine rg_put (d := 24) (v := .d (.sl 3 (List.map eFc ((chg s key).1)))) rfl (og rfl (op_move rfl rfl rfl)) ?_
    refine rg_put (d := 25) (v := .d (.sl 3 (List.map eFc ((chg s key).1)))) rfl (og rfl (op_move rfl rfl rfl)) ?_
    refine rg_put (d := 26) (v := .d (.fl (.bool true))) rfl (og rfl (op_call rfl Tryd.func11 nm11 rfl (.cons rfl (.d _) (.cons rfl (.d _) .nil)) (same11 ((chg s key).1) (chg_len hs)) rfl)) ?_
    refine rg_put (d := 27) (v := .d (.fl (.bool true))) rfl (og rfl (op_move rfl rfl rfl)) ?_
    refine rg_put (d := 28) (v := .d (.fl (.int .i64 ((chg s key).2)))) rfl (oy rfl rfl rfl rfl (op_move rfl rfl rfl)) ?_
    refine rg_put (d := 29) (v := .d (.fl (.int .i64 ((chg s key).2)))) rfl (oy rfl rfl rfl rfl (op_move rfl rfl rfl)) ?_
    refine rg_put (d := 30) (v := .d (.fl (.bool (((chg s key).2 == (chg s key).2))))) rfl (oy rfl rfl rfl rfl (op_bin rfl rfl rfl (b_eql _ _ _ _) rfl)) ?_
    refine rg_put (d := 31) (v := .d (.fl (.bool (((chg s key).2 == (chg s key).2))))) rfl (og rfl (op_pick rfl rfl rfl rfl)) ?_
    refine rg_put (d := 32) (v := .d (.fl (.bool (((chg s key).2 == (chg s key).2))))) rfl (og rfl (op_move rfl rfl rfl)) ?_
    refine rg_put (d := 33) (v := .d (.fl (.bool true))) rfl (oy rfl rfl rfl (eq_self_b _) (op_callK kkst hG rfl Tryd.func8 nm8 rfl .nil awake8 rfl)) ?_
    refine rg_put (d := 34) (v := .d (.fl (.bool true))) rfl (og rfl (op_pick rfl rfl (by rw [(eq_self_b _)]; rfl) rfl)) ?_
    refine rg_put (d := 4) (v := .d (.fl (.bool true))) rfl (og rfl (op_assign rfl rfl rfl)) ?_
    refine rg_done rfl ?_
    refine a_ret ?_
    show ∃ ds, ResL _ _ _ ds ∧ RV.of ds = _
    refine ⟨[.fl (.bool true)], (.cons (.tmp rfl (.d _)) .nil), ?_⟩
    rfl
theorem kk_of {a b : Nat} (h : ((!(decide ((300 : Int) < (a : Int)))) && (!(decide ((300 : Int) < (b : Int))))) = true) : a ≤ 300 ∧ b ≤ 300 := by
  rw [Bool.and_eq_true] at h
  have h1 := nl_of h.1
  have h2 := nl_of h.2
  omega

set_option maxHeartbeats 4000000 in
set_option maxRecDepth 100000 in
theorem law6 (l : List Fc) (why_ : Int) : CtrK Tryd.prog KK 6 [.sl 3 (List.map eFc l), .fl (.int .i64 why_)] (.d (.fl (.bool true))) := by
  refine ctrK (n := 44) (rs := #[.tmp 4]) (L := [(0, .d (.sl 3 (List.map eFc l))), (1, .d (.fl (.int .i64 why_)))]) Tryd.func6 rfl rfl rfl rfl rfl (fun w0 U0 hG => ?_)
  refine a_rseq ?_
  refine rg_put (d := 4) (v := .d (.fl (.bool false))) rfl (og rfl (op_assign rfl rfl rfl)) ?_
  refine rg_done rfl ?_
  refine a_seq ?_
  refine a_rseq ?_
  refine rg_put (d := 7) (v := .d (.sl 3 (List.map eFc l))) rfl (og rfl (op_move rfl rfl rfl)) ?_
  refine rg_put (d := 8) (v := .d (.fl (.int .i64 (l.length : Int)))) rfl (og rfl (s_len rfl Tryd.underlying69 rfl rfl)) ?_
  refine rg_put (d := 9) (v := .d (.fl (.bool ((decide (100 < (l.length : Int))))))) rfl (og rfl (op_bin rfl rfl rfl (b_gtr _ _ _ _) rfl)) ?_
  refine rg_done rfl ?_
  refine a_cond rfl (fun h1 => ?_) (fun h1 => ?_)
  · skip
    have h2 := t_dec h1
    refine a_rseq ?_
    refine rg_put (d := 10) (v := .d (.fl (.bool true))) rfl (og rfl (op_callK kkst hG rfl Tryd.func8 nm8 rfl .nil awake8 rfl)) ?_
    refine rg_put (d := 4) (v := .d (.fl (.bool true))) rfl (og rfl (op_assign rfl rfl rfl)) ?_
    refine rg_done rfl ?_
    refine a_ret ?_
    show ∃ ds, ResL _ _ _ ds ∧ RV.of ds = _
    refine ⟨[.fl (.bool true)], (.cons (.tmp rfl (.d _)) .nil), ?_⟩
    rfl
  · skip
    have h3 := f_dec h1
    refine a_skip ?_
    show A _ _ _ _ _ _ _
    refine a_seq ?_
    refine a_rseq ?_
    refine rg_put (d := 11) (v := .d (.sl 3 (List.map eFc l))) rfl (og rfl (op_move rfl rfl rfl)) ?_
    refine rg_put (d := 12) (v := .d (.fl (.int .i64 (l.length : Int)))) rfl (og rfl (s_len rfl Tryd.underlying69 rfl rfl)) ?_
    refine rg_put (d := 13) (v := .d (.fl (.int .i64 0))) rfl (og rfl (op_move rfl rfl rfl)) ?_
    refine rg_done rfl ?_
    refine a_block ?_
    refine a_loop (ι := Nat) (fun k => SS [(0, .d (.sl 3 (List.map eFc l))), (1, .d (.fl (.int .i64 why_))), (9, .d (.fl (.bool ((decide (100 < (l.length : Int))))))), (11, .d (.sl 3 (List.map eFc l))), (12, .d (.fl (.int .i64 (l.length : Int)))), (13, .d (.fl (.int .i64 (k : Int))))] []) (fun k => k ≤ l.length ∧ ∀ q, q < k → ((!(decide ((300 : Int) < ((ix l q).kind.size : Int)))) && (!(decide ((300 : Int) < ((ix l q).key.size : Int))))) = true) (fun k => l.length - k) 0 (⟨by omega, fun q h => by omega⟩) (imp_forget rfl ⟨rfl, rfl, rfl, rfl, rfl, (by first | rfl | exact ci (by omega) | exact ci (by simp) | exact cd (by simp) | simp), trivial⟩ trivial) (fun k hok => ?_)
    obtain ⟨hk, hq⟩ := hok
    refine a_rseq ?_
    refine rg_put (d := 14) (v := .d (.fl (.bool ((decide ((k : Int) < (l.length : Int))))))) rfl (og rfl (op_bin rfl rfl rfl (b_lss _ _ _ _) rfl)) ?_
    refine rg_done rfl ?_
    refine a_seq ?_
    refine a_cond rfl (fun h4 => ?_) (fun h4 => ?_)
    · skip
      have h5 := t_dec h4
      refine a_skip ?_
      show A _ _ _ _ _ _ _
      refine a_seq ?_
      refine a_block ?_
      refine a_rseq ?_
      refine rg_put (d := 15) (v := .el ((eFc (ix l k)))) rfl (og rfl (s_index rfl Tryd.underlying69 ti81 rfl rfl (by omega) (row_at (by omega)) rfl)) ?_
      refine rg_put (d := 16) (v := .d (.ag (eFc (ix l k)))) rfl (og rfl (of_eff (s_load_els rfl Tryd.underlying81 rfl ti81 rfl rfl rfl) rfl)) ?_
      refine rg_nam (d := 6) (v := .pt 101 0) (m := 101) (nw := [(101, .bx 81 ([.fl (.string (⟨#[]⟩)), .fl (.string (⟨#[]⟩)), .fl (.int .i64 0)]))]) rfl (og rfl (of_eff (s_alloc 101 rfl ti81 (by kernel_rfl) rfl) rfl)) rfl ?_
      refine rg_sto (nw := [(101, .bx 81 ((eFc (ix l k))))]) rfl (og rfl (of_eff (s_store rfl rfl ti81 rfl rfl rfl rfl rfl rfl) rfl)) ?_
      refine rg_done rfl ?_
      refine a_rseq ?_
      refine rg_put (d := 17) (v := .pt 101 0) rfl (og rfl (of_eff (s_field_pt rfl Tryd.underlying81 rfl ti9 rfl rfl rfl) rfl)) ?_
      refine rg_put (d := 18) (v := .d (.fl (.string ((ix l k).kind)))) rfl (og rfl (op_load_pt rfl Tryd.underlying9 rfl rfl rfl rfl rfl)) ?_
      refine rg_put (d := 19) (v := .d (.fl (.int .i64 ((((ix l k).kind).size : Int))))) rfl (og rfl (op_len_str rfl Tryd.underlying9 rfl rfl)) ?_
      refine rg_put (d := 20) (v := .d (.fl (.bool ((decide (300 < (((ix l k).kind).size : Int))))))) rfl (og rfl (op_bin rfl rfl rfl (b_gtr _ _ _ _) rfl)) ?_
      refine rg_put (d := 21) (v := .d (.fl (.bool ((decide (300 < (((ix l k).kind).size : Int))))))) rfl (og rfl (op_move rfl rfl rfl)) ?_
      rcases fot ((decide (300 < (((ix l k).kind).size : Int)))) with h6 | h6
      · skip
        have h7 := f_dec h6
        refine rg_put (d := 22) (v := .pt 101 1) rfl (oy rfl rfl rfl h6 (of_eff (s_field_pt rfl Tryd.underlying81 rfl ti9 rfl rfl rfl) rfl)) ?_
        refine rg_put (d := 23) (v := .d (.fl (.string ((ix l k).key)))) rfl (oy rfl rfl rfl h6 (op_load_pt rfl Tryd.underlying9 rfl rfl rfl rfl rfl)) ?_
        refine rg_put (d := 24) (v := .d (.fl (.int .i64 ((((ix l k).key).size : Int))))) rfl (oy rfl rfl rfl h6 (op_len_str rfl Tryd.underlying9 rfl rfl)) ?_
        refine rg_put (d := 25) (v := .d (.fl (.bool ((decide (300 < (((ix l k).key).size : Int))))))) rfl (oy rfl rfl rfl h6 (op_bin rfl rfl rfl (b_gtr _ _ _ _) rfl)) ?_
        refine rg_put (d := 26) (v := .d (.fl (.bool ((decide (300 < (((ix l k).key).size : Int))))))) rfl (og rfl (op_pick rfl rfl (by rw [h6]; rfl) rfl)) ?_
        refine rg_done rfl ?_
        refine a_cond rfl (fun h8 => ?_) (fun h8 => ?_)
        · skip
          have h9 := t_dec h8
          refine a_rseq ?_
          refine rg_put (d := 27) (v := .d (.fl (.bool true))) rfl (og rfl (op_callK kkst hG rfl Tryd.func8 nm8 rfl .nil awake8 rfl)) ?_
          refine rg_put (d := 4) (v := .d (.fl (.bool true))) rfl (og rfl (op_assign rfl rfl rfl)) ?_
          refine rg_done rfl ?_
          refine a_ret ?_
          show ∃ ds, ResL _ _ _ ds ∧ RV.of ds = _
          refine ⟨[.fl (.bool true)], (.cons (.tmp rfl (.d _)) .nil), ?_⟩
          rfl
        · skip
          have h10 := f_dec h8
          refine a_skip ?_
          show A _ _ _ _ _ _ _
          refine a_region ?_
          refine rg_put (d := 28) (v := .d (.fl (.int .i64 (((k : Int) + 1))))) rfl (og rfl (op_bin rfl rfl rfl (fun x y w => b_add64 _ _ _ x y w (by omega)) rfl)) ?_
          refine rg_put (d := 13) (v := .d (.fl (.int .i64 (((k : Int) + 1))))) rfl (og rfl (op_move rfl rfl rfl)) ?_
          refine rg_done rfl ?_
          have hx : ((!(decide ((300 : Int) < ((ix l k).kind.size : Int)))) && (!(decide ((300 : Int) < ((ix l k).key.size : Int))))) = true := by rw [h6, h8]; rfl
          show ∃ i, _ ∧ _ ∧ Imp _ _ _ _ _
          refine ⟨k + 1, ⟨by omega, fun q h => (Nat.lt_succ_iff_lt_or_eq.1 h).elim (hq q) (fun e => by rw [e]; exact hx)⟩, by omega, imp_forget rfl ⟨rfl, rfl, rfl, rfl, rfl, (by first | rfl | exact ci (by omega) | exact ci (by simp) | exact cd (by simp) | simp), trivial⟩ trivial⟩
      · skip
        have h11 := t_dec h6
        refine rg_put (d := 22) (v := .d (.fl undef)) rfl (on rfl rfl rfl h6) ?_
        refine rg_put (d := 23) (v := .d (.fl undef)) rfl (on rfl rfl rfl h6) ?_
        refine rg_put (d := 24) (v := .d (.fl undef)) rfl (on rfl rfl rfl h6) ?_
        refine rg_put (d := 25) (v := .d (.fl undef)) rfl (on rfl rfl rfl h6) ?_
        refine rg_put (d := 26) (v := .d (.fl (.bool true))) rfl (og rfl (op_pick rfl rfl (by rw [h6]; rfl) rfl)) ?_
        refine rg_done rfl ?_
        refine a_condK rfl rfl ?_
        refine a_rseq ?_
        refine rg_put (d := 27) (v := .d (.fl (.bool true))) rfl (og rfl (op_callK kkst hG rfl Tryd.func8 nm8 rfl .nil awake8 rfl)) ?_
        refine rg_put (d := 4) (v := .d (.fl (.bool true))) rfl (og rfl (op_assign rfl rfl rfl)) ?_
        refine rg_done rfl ?_
        refine a_ret ?_
        show ∃ ds, ResL _ _ _ ds ∧ RV.of ds = _
        refine ⟨[.fl (.bool true)], (.cons (.tmp rfl (.d _)) .nil), ?_⟩
        rfl
    · skip
      have h12 := f_dec h4
      refine a_exit ?_
      show A _ _ _ _ _ _ _
      refine a_rseq ?_
      have hF : okF l := ⟨by omega, fun q h => kk_of (hq q (by omega))⟩
      refine rg_put (d := 29) (v := .d (.sl 3 (List.map eFc l))) rfl (og rfl (op_move rfl rfl rfl)) ?_
      refine rg_put (d := 30) (v := .d (.fl (.string (prS l l.length)))) rfl (og rfl (op_callK kkst hG rfl Tryd.func16 nm16 rfl (.cons rfl (.d _) .nil) (pr16 l hF) rfl)) ?_
      refine rg_put (d := 31) (v := .d (.sl 3 (List.map eFc l))) rfl (og rfl (op_move rfl rfl rfl)) ?_
      refine rg_put (d := 32) (v := .d (.fl (.string (prS l l.length)))) rfl (og rfl (op_call rfl Tryd.func17 nm17 rfl (.cons rfl (.d _) .nil) (pr17 l hF) rfl)) ?_
      refine rg_put (d := 33) (v := .d (.fl (.bool ((sEq (prS l l.length) (prS l l.length)))))) rfl (og rfl (op_bin rfl rfl rfl (b_seq _ _ _) rfl)) ?_
      refine rg_put (d := 34) (v := .d (.fl (.bool ((sEq (prS l l.length) (prS l l.length)))))) rfl (og rfl (op_move rfl rfl rfl)) ?_
      refine rg_put (d := 35) (v := .d (.fl (.int .i64 why_))) rfl (oy rfl rfl rfl (eq_self_s _) (op_move rfl rfl rfl)) ?_
      refine rg_put (d := 36) (v := .d (.fl (.string (why why_)))) rfl (oy rfl rfl rfl (eq_self_s _) (op_callK kkst hG rfl Tryd.func18 nm18 rfl (.cons rfl (.d _) .nil) (why18 why_) rfl)) ?_
      refine rg_put (d := 37) (v := .d (.fl (.int .i64 why_))) rfl (oy rfl rfl rfl (eq_self_s _) (op_move rfl rfl rfl)) ?_
      refine rg_put (d := 38) (v := .d (.fl (.string (why why_)))) rfl (oy rfl rfl rfl (eq_self_s _) (op_call rfl Tryd.func19 nm19 rfl (.cons rfl (.d _) .nil) (why19 why_) rfl)) ?_
      refine rg_put (d := 39) (v := .d (.fl (.bool ((sEq (why why_) (why why_)))))) rfl (oy rfl rfl rfl (eq_self_s _) (op_bin rfl rfl rfl (b_seq _ _ _) rfl)) ?_
      refine rg_put (d := 40) (v := .d (.fl (.bool ((sEq (why why_) (why why_)))))) rfl (og rfl (op_pick rfl rfl (by rw [(eq_self_s _)]; rfl) rfl)) ?_
      refine rg_put (d := 41) (v := .d (.fl (.bool ((sEq (why why_) (why why_)))))) rfl (og rfl (op_move rfl rfl rfl)) ?_
      refine rg_put (d := 42) (v := .d (.fl (.bool true))) rfl (oy rfl rfl rfl (eq_self_s _) (op_callK kkst hG rfl Tryd.func8 nm8 rfl .nil awake8 rfl)) ?_
      refine rg_put (d := 43) (v := .d (.fl (.bool true))) rfl (og rfl (op_pick rfl rfl (by rw [(eq_self_s _)]; rfl) rfl)) ?_
      refine rg_put (d := 4) (v := .d (.fl (.bool true))) rfl (og rfl (op_assign rfl rfl rfl)) ?_
      refine rg_done rfl ?_
      refine a_ret ?_
      show ∃ ds, ResL _ _ _ ds ∧ RV.of ds = _
      refine ⟨[.fl (.bool true)], (.cons (.tmp rfl (.d _)) .nil), ?_⟩
      rfl
end Go.Proofs.YtgfbgkoifcacdaaDoor.Wk
