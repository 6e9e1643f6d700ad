/- The law of the steps. Condition: the arguments read as data. -/
import Derived.Test.YtfkipmdaffhkbaaC1
set_option linter.unusedSimpArgs false
set_option linter.unusedVariables false
namespace Go.Proofs.Ytfkipmdaffhkbaa.Wk
open Go Go.RowKit Go.Proofs.Ytfkipmdaffhkbaa.Av
def pkE (id : ByteArray) (l : List Im) (k : Nat) : Pk := ⟨id, l.take k, fits id (l.take k)⟩
theorem bld_nil {id : ByteArray} (h : isF id = true) (l : List Im) : bld id [] = (pkE id l 0, 0) := by unfold bld; rw [h]; rfl
theorem pkE_succ {id : ByteArray} {l : List Im} {k : Nat} (hk : k < l.length) : (⟨id, l.take k ++ [ix l k], fits id (l.take k ++ [ix l k])⟩ : Pk) = pkE id l (k + 1) := by unfold pkE; rw [take_ix hk]
theorem add_go {id : ByteArray} {l : List Im} {k : Nat} (hk : k < l.length) (hl : l.length ≤ 20) (h : bk l k = 0) : add (pkE id l k) (ix l k) = (pkE id l (k + 1), 0) := by
  have h1 : lEq (pkE id l k).chain (fits (pkE id l k).case (pkE id l k).images) = true := lEq_refl _
  have h2 : decide ((1024 : Int) ≤ ((pkE id l k).images.length : Int)) = false := decide_eq_false (by show ¬ (1024 : Int) ≤ ((l.take k).length : Int); rw [List.length_take]; omega)
  rw [add_ok h1 h2 h]
  exact congrArg (fun p => (p, (0 : Int))) (pkE_succ hk)
theorem add_stop {id : ByteArray} {l : List Im} {k : Nat} (hk : k < l.length) (hl : l.length ≤ 20) (h : bk l k ≠ 0) : add (pkE id l k) (ix l k) = (pkE id l k, bk l k) := by
  have h1 : lEq (pkE id l k).chain (fits (pkE id l k).case (pkE id l k).images) = true := lEq_refl _
  have h2 : decide ((1024 : Int) ≤ ((pkE id l k).images.length : Int)) = false := decide_eq_false (by show ¬ (1024 : Int) ≤ ((l.take k).length : Int); rw [List.length_take]; omega)
  exact add_err h1 h2 rfl h
theorem okd_take {l : List Im} (hO : ∀ im ∈ l, Okd im) (k : Nat) : ∀ im ∈ l.take k, Okd im := fun im h => hO im (List.mem_of_mem_take h)
theorem co_in {x : Int} {L : List (List Int)} (h : 0 ≤ x ∧ x ≤ 18446744073709551615) : ∀ k, ∀ y ∈ co x L k, 0 ≤ y ∧ y ≤ 18446744073709551615
  | 0, y, hy => by cases hy
  | k + 1, y, hy => by
    have hy' : y ∈ co x L k ++ [cl x L (k + 1)] := hy
    rcases List.mem_append.1 hy' with h1 | h1
    · exact co_in h k y h1
    · rw [List.mem_singleton.1 h1]; exact cl_in h (k + 1)
theorem fits_in (id : ByteArray) (l : List Im) : ∀ y ∈ fits id l, 0 ≤ y ∧ y ≤ 18446744073709551615 := co_in (hsh_in _) _
theorem okp_pkE {id : ByteArray} {l : List Im} (hid : id.size ≤ 600) (hl : l.length ≤ 20) (hO : ∀ im ∈ l, Okd im) (k : Nat) : Okp (pkE id l k) :=
  ⟨by show id.size ≤ 1000; omega, by show (l.take k).length ≤ 2000; rw [List.length_take]; omega, by show (fits id (l.take k)).length ≤ 100000; rw [fits_len, List.length_take]; omega, okd_take hO k, fits_in _ _⟩
theorem ver_pk {id : ByteArray} {l : List Im} {k : Nat} (h : Okp (pkE id l k)) : Ctr Try.prog 20 [.ag (ePk (pkE id l k))] (.d (.fl (.bool true))) := by
  have := verify20 (pkE id l k) h
  rw [show lEq (pkE id l k).chain (fits (pkE id l k).case (pkE id l k).images) = true from lEq_refl _] at this
  exact this
theorem pkE_len {id : ByteArray} {l : List Im} {k : Nat} (h : k ≤ l.length) : (pkE id l k).chain.length = k := by show (fits id (l.take k)).length = k; rw [fits_len, List.length_take]; omega
theorem add18E {id : ByteArray} {l : List Im} {k : Nat} {p : Pk} {e : Int} (h : Okp (pkE id l k)) (hI : Okd (ix l k)) (he : add (pkE id l k) (ix l k) = (p, e)) : Ctr Try.prog 18 [.ag (ePk (pkE id l k)), .ag (eIm (ix l k))] (.tu [.ag (ePk p), .fl (.int .i64 e)]) := by
  have := add18 (pkE id l k) (ix l k) h hI
  rw [he] at this
  exact this
theorem build15E {id : ByteArray} {l : List Im} {p : Pk} {e : Int} (hid : id.size ≤ 1000) (hl : l.length ≤ 3000) (hO : ∀ im ∈ l, Okd im) (he : bld id l = (p, e)) : Ctr Try.prog 15 [.fl (.string id), .sl 5 (List.map eIm l)] (.tu [.ag (ePk p), .fl (.int .i64 e)]) := by
  have := build15 id l hid hl hO
  rw [he] at this
  exact this
theorem lim20 {l : List Im} (h : l.length ≤ 20) : decide ((1024 : Int) < (l.length : Int)) = false := decide_eq_false (by omega)
theorem pkE_all {id : ByteArray} {l : List Im} {k : Nat} (h : k = l.length) : pkE id l k = ⟨id, l, fits id l⟩ := by subst h; unfold pkE; rw [List.take_length]

set_option maxHeartbeats 4000000 in
set_option maxRecDepth 100000 in
theorem law7 (id : ByteArray) (l : List Im) (hW : l.length ≤ 9223372036854775807 ∧ ∀ a ∈ l, okIm a) : Ctr Try.prog 7 [.fl (.string id), .sl 5 (List.map eIm l)] (.d (.fl (.bool true))) := by
  refine ctr (n := 85) (rs := #[.tmp 4]) (L := [(0, .d (.fl (.string id))), (1, .d (.sl 5 (List.map eIm l)))]) Try.func7 rfl rfl rfl rfl rfl (fun w0 U0 => ?_)
  refine a_rseq ?_
  refine rg_put (d := 4) (v := .d (.fl (.bool false))) rfl (og rfl (op_assign rfl rfl rfl)) ?_
  refine rg_done rfl ?_
  refine a_seq ?_
  refine a_rseq ?_
  refine rg_put (d := 12) (v := .d (.sl 5 (List.map eIm l))) rfl (og rfl (op_move rfl rfl rfl)) ?_
  refine rg_put (d := 13) (v := .d (.fl (.bool (fewB l)))) rfl (og rfl (op_call rfl Try.func14 nm14 rfl (.cons rfl (.d _) .nil) (few14 l hW.1 (fun x hx => (hW.2 x hx).2.2.2.1.1)) rfl)) ?_
  refine rg_put (d := 14) (v := .d (.fl (.bool ((!(fewB l)))))) rfl (og rfl (op_un rfl rfl (u_not _) rfl)) ?_
  refine rg_put (d := 15) (v := .d (.fl (.bool ((!(fewB l)))))) rfl (og rfl (op_move rfl rfl rfl)) ?_
  rcases fot ((!(fewB l))) with h1 | h1
  · skip
    have h2 := f_not h1
    refine rg_put (d := 16) (v := .d (.fl (.string id))) rfl (oy rfl rfl rfl h1 (op_move rfl rfl rfl)) ?_
    refine rg_put (d := 17) (v := .d (.fl (.int .i64 (id.size : Int)))) rfl (oy rfl rfl rfl h1 (op_len_str rfl Try.underlying9 rfl rfl)) ?_
    refine rg_put (d := 18) (v := .d (.fl (.bool ((decide (600 < (id.size : Int))))))) rfl (oy rfl rfl rfl h1 (op_bin rfl rfl rfl (b_gtr _ _ _ _) rfl)) ?_
    refine rg_put (d := 19) (v := .d (.fl (.bool ((decide (600 < (id.size : Int))))))) rfl (og rfl (op_pick rfl rfl (by rw [h1]; rfl) rfl)) ?_
    refine rg_done rfl ?_
    refine a_cond rfl (fun h3 => ?_) (fun h3 => ?_)
    · skip
      have h4 := t_dec h3
      refine a_rseq ?_
      refine rg_put (d := 20) (v := .d (.fl (.bool true))) rfl (og rfl (op_call rfl Try.func11 nm11 rfl .nil awake11 rfl)) ?_
      refine rg_put (d := 4) (v := .d (.fl (.bool true))) rfl (og rfl (op_assign rfl rfl rfl)) ?_
      refine rg_done rfl ?_
      refine a_ret ?_
      show ∃ ds, ResL _ _ _ ds ∧ RV.of ds = _
      refine ⟨[.fl (.bool true)], (.cons (.tmp rfl (.d _)) .nil), ?_⟩
      rfl
    · skip
      have h5 := f_dec h3
      refine a_skip ?_
      show A _ _ _ _ _ _ _
      refine a_rseq ?_
      obtain ⟨hO, hl20⟩ := okd_few hW.2 h2
      refine rg_put (d := 22) (v := .d (.fl (.string id))) rfl (og rfl (op_move rfl rfl rfl)) ?_
      refine rg_put (d := 23) (v := .d (.sl 5 (List.map eIm l))) rfl (og rfl (op_move rfl rfl rfl)) ?_
      refine rg_put (d := 24) (v := .tu [.ag (ePk ((bld id l).1)), .fl (.int .i64 ((bld id l).2))]) rfl (og rfl (op_call rfl Try.func15 nm15 rfl (.cons rfl (.d _) (.cons rfl (.d _) .nil)) (build15 id l (by omega) (by omega) hO) rfl)) ?_
      refine rg_put (d := 21) (v := .tu [.ag (ePk ((bld id l).1)), .fl (.int .i64 ((bld id l).2))]) rfl (og rfl (op_move rfl rfl rfl)) ?_
      refine rg_put (d := 25) (v := .d (.ag (ePk ((bld id l).1)))) rfl (og rfl (op_extract rfl rfl rfl rfl)) ?_
      refine rg_put (d := 26) (v := .d (.fl (.int .i64 ((bld id l).2)))) rfl (og rfl (op_extract rfl rfl rfl rfl)) ?_
      refine rg_nam (d := 5) (v := .pt 101 0) (m := 101) (nw := [(101, .bx 33 ([.fl (.string (⟨#[]⟩)), .fl (.slice none 0 0), .fl (.slice none 0 0)]))]) rfl (og rfl (of_eff (s_alloc 101 rfl ti33 (by kernel_rfl) rfl) rfl)) rfl ?_
      refine rg_sto (nw := [(101, .bx 33 ((ePk ((bld id l).1))))]) rfl (og rfl (of_eff (s_store rfl rfl ti33 rfl rfl rfl rfl rfl rfl) rfl)) ?_
      refine rg_put (d := 6) (v := .d (.fl (.int .i64 ((bld id l).2)))) rfl (og rfl (op_assign rfl rfl rfl)) ?_
      refine rg_done rfl ?_
      refine a_rseq ?_
      refine rg_put (d := 28) (v := .d (.fl (.string id))) rfl (og rfl (op_move rfl rfl rfl)) ?_
      rcases fot (isF id) with h6 | h6
      · skip
        refine rg_put (d := 29) (v := .tu [.ag (ePk zPk), .fl (.int .i64 5)]) rfl (og rfl (op_call rfl Try.func15 nm15 rfl (.cons rfl (.d _) (.cons rfl (.cv (Cv.nil _)) .nil)) (build15E (l := []) (by omega) (by decide) (fun im h => by cases h) (bld_form h6)) rfl)) ?_
        refine rg_put (d := 27) (v := .tu [.ag (ePk zPk), .fl (.int .i64 5)]) rfl (og rfl (op_move rfl rfl rfl)) ?_
        refine rg_put (d := 30) (v := .d (.ag (ePk zPk))) rfl (og rfl (op_extract rfl rfl rfl rfl)) ?_
        refine rg_put (d := 31) (v := .d (.fl (.int .i64 5))) rfl (og rfl (op_extract rfl rfl rfl rfl)) ?_
        refine rg_nam (d := 7) (v := .pt 102 0) (m := 102) (nw := [(102, .bx 33 ([.fl (.string (⟨#[]⟩)), .fl (.slice none 0 0), .fl (.slice none 0 0)]))]) rfl (og rfl (of_eff (s_alloc 102 rfl ti33 (by kernel_rfl) rfl) rfl)) rfl ?_
        refine rg_sto (nw := [(102, .bx 33 (ePk zPk))]) rfl (og rfl (of_eff (s_store rfl rfl ti33 rfl rfl rfl rfl rfl rfl) rfl)) ?_
        refine rg_put (d := 8) (v := .d (.fl (.int .i64 5))) rfl (og rfl (op_assign rfl rfl rfl)) ?_
        refine rg_done rfl ?_
        refine a_seq ?_
        refine a_rseq ?_
        refine rg_put (d := 32) (v := .d (.fl (.int .i64 5))) rfl (og rfl (op_move rfl rfl rfl)) ?_
        refine rg_put (d := 33) (v := .d (.fl (.bool (5 != 0)))) rfl (og rfl (op_bin rfl rfl rfl (b_neq _ _ _ _) rfl)) ?_
        refine rg_done rfl ?_
        refine a_condK rfl rfl ?_
        refine a_rseq ?_
        refine rg_put (d := 34) (v := .d (.fl (.int .i64 ((bld id l).2)))) rfl (og rfl (op_move rfl rfl rfl)) ?_
        refine rg_put (d := 35) (v := .d (.fl (.int .i64 5))) rfl (og rfl (op_move rfl rfl rfl)) ?_
        refine rg_put (d := 36) (v := .d (.fl (.bool (((bld id l).2 == 5))))) rfl (og rfl (op_bin rfl rfl rfl (b_eql _ _ _ _) rfl)) ?_
        refine rg_put (d := 37) (v := .d (.fl (.bool (((bld id l).2 == 5))))) rfl (og rfl (op_move rfl rfl rfl)) ?_
        refine rg_put (d := 38) (v := .d (.fl (.bool true))) rfl (oy rfl rfl rfl (show ((bld id l).2 == 5) = true by rw [bld_form h6]; rfl) (op_call rfl Try.func11 nm11 rfl .nil awake11 rfl)) ?_
        refine rg_put (d := 39) (v := .d (.fl (.bool true))) rfl (og rfl (op_pick rfl rfl (by rw [(show ((bld id l).2 == 5) = true by rw [bld_form h6]; rfl)]; rfl) rfl)) ?_
        refine rg_put (d := 4) (v := .d (.fl (.bool true))) rfl (og rfl (op_assign rfl rfl rfl)) ?_
        refine rg_done rfl ?_
        refine a_ret ?_
        show ∃ ds, ResL _ _ _ ds ∧ RV.of ds = _
        refine ⟨[.fl (.bool true)], (.cons (.tmp rfl (.d _)) .nil), ?_⟩
        rfl
      · skip
        refine rg_put (d := 29) (v := .tu [.ag (ePk (pkE id l 0)), .fl (.int .i64 0)]) rfl (og rfl (op_call rfl Try.func15 nm15 rfl (.cons rfl (.d _) (.cons rfl (.cv (Cv.nil _)) .nil)) (build15E (l := []) (by omega) (by decide) (fun im h => by cases h) (bld_nil h6 l)) rfl)) ?_
        refine rg_put (d := 27) (v := .tu [.ag (ePk (pkE id l 0)), .fl (.int .i64 0)]) rfl (og rfl (op_move rfl rfl rfl)) ?_
        refine rg_put (d := 30) (v := .d (.ag (ePk (pkE id l 0)))) rfl (og rfl (op_extract rfl rfl rfl rfl)) ?_
        refine rg_put (d := 31) (v := .d (.fl (.int .i64 0))) rfl (og rfl (op_extract rfl rfl rfl rfl)) ?_
        refine rg_nam (d := 7) (v := .pt 103 0) (m := 103) (nw := [(103, .bx 33 ([.fl (.string (⟨#[]⟩)), .fl (.slice none 0 0), .fl (.slice none 0 0)]))]) rfl (og rfl (of_eff (s_alloc 103 rfl ti33 (by kernel_rfl) rfl) rfl)) rfl ?_
        refine rg_sto (nw := [(103, .bx 33 ((ePk (pkE id l 0))))]) rfl (og rfl (of_eff (s_store rfl rfl ti33 rfl rfl rfl rfl rfl rfl) rfl)) ?_
        refine rg_put (d := 8) (v := .d (.fl (.int .i64 0))) rfl (og rfl (op_assign rfl rfl rfl)) ?_
        refine rg_done rfl ?_
        refine a_seq ?_
        refine a_rseq ?_
        refine rg_put (d := 32) (v := .d (.fl (.int .i64 0))) rfl (og rfl (op_move rfl rfl rfl)) ?_
        refine rg_put (d := 33) (v := .d (.fl (.bool (0 != 0)))) rfl (og rfl (op_bin rfl rfl rfl (b_neq _ _ _ _) rfl)) ?_
        refine rg_done rfl ?_
        refine a_condF rfl (ne_self_b _) ?_
        refine a_skip ?_
        show A _ _ _ _ _ _ _
        refine a_seq ?_
        refine a_rseq ?_
        refine rg_put (d := 9) (v := .d (.fl (.int .i64 0))) rfl (og rfl (op_assign rfl rfl rfl)) ?_
        refine rg_done rfl ?_
        refine a_block ?_
        refine a_loop (ι := Nat) (fun k => SS [(0, .d (.fl (.string id))), (1, .d (.sl 5 (List.map eIm l))), (5, .pt 101 0), (6, .d (.fl (.int .i64 ((bld id l).2)))), (7, .pt 103 0), (8, .d (.fl (.int .i64 0))), (19, .d (.fl (.bool ((decide (600 < (id.size : Int))))))), (33, .d (.fl (.bool (0 != 0)))), (9, .d (.fl (.int .i64 (k : Int))))] [(101, .bx 33 ((ePk ((bld id l).1)))), (103, .bx 33 ((ePk (pkE id l k))))]) (fun k => k ≤ l.length ∧ bE l = fe (bk l) k (l.length - k)) (fun k => l.length - k) 0 (⟨by omega, bE_go l⟩) (imp_forget rfl ⟨rfl, rfl, rfl, rfl, rfl, rfl, rfl, rfl, (by first | rfl | exact ci (by omega) | exact ci (by simp) | exact cd (by simp) | simp), trivial⟩ ⟨rfl, rfl, trivial⟩) (fun k hok => ?_)
        obtain ⟨hk, hc⟩ := hok
        refine a_seq ?_
        refine a_rseq ?_
        refine rg_put (d := 40) (v := .d (.fl (.int .i64 (k : Int)))) rfl (og rfl (op_move rfl rfl rfl)) ?_
        refine rg_put (d := 41) (v := .d (.sl 5 (List.map eIm l))) rfl (og rfl (op_move rfl rfl rfl)) ?_
        refine rg_put (d := 42) (v := .d (.fl (.int .i64 (l.length : Int)))) rfl (og rfl (s_len rfl Try.underlying29 rfl rfl)) ?_
        refine rg_put (d := 43) (v := .d (.fl (.bool ((decide ((k : Int) < (l.length : Int))))))) rfl (og rfl (op_bin rfl rfl rfl (b_lss _ _ _ _) rfl)) ?_
        refine rg_done rfl ?_
        refine a_cond rfl (fun h7 => ?_) (fun h7 => ?_)
        · skip
          have h8 := t_dec h7
          refine a_skip ?_
          show A _ _ _ _ _ _ _
          refine a_seq ?_
          refine a_block ?_
          refine a_dseq (by kernel_rfl) ?_
          refine dr_put (d := 47) (v := .d (.ag (ePk (pkE id l k)))) rfl (og rfl (of_eff (s_load_pts rfl Try.underlying33 rfl ti33 rfl rfl rfl rfl) rfl)) ?_
          refine dr_put (d := 48) (v := .d (.sl 5 (List.map eIm l))) rfl (og rfl (op_move rfl rfl rfl)) ?_
          refine dr_put (d := 49) (v := .d (.fl (.int .i64 (k : Int)))) rfl (og rfl (op_move rfl rfl rfl)) ?_
          refine dr_put (d := 50) (v := .el ((eIm (ix l k)))) rfl (og rfl (s_index rfl Try.underlying29 ti25 rfl rfl (by omega) (row_at (by omega)) rfl)) ?_
          refine dr_put (d := 51) (v := .d (.ag (eIm (ix l k)))) rfl (og rfl (of_eff (s_load_els rfl Try.underlying25 rfl ti25 rfl rfl rfl) rfl)) ?_
          rcases fot (((bk l k) != 0)) with h9 | h9
          · skip
            have h10 := f_bne h9
            refine dr_put (d := 52) (v := .tu [.ag (ePk ((pkE id l (k + 1)))), .fl (.int .i64 0)]) rfl (og rfl (op_call rfl Try.func18 nm18 rfl (.cons rfl (.d _) (.cons rfl (.d _) .nil)) (add18E (okp_pkE (by omega) hl20 hO k) (hO _ (ix_mem (by omega))) (add_go (by omega) hl20 (f_bne h9))) rfl)) ?_
            refine dr_put (d := 46) (v := .tu [.ag (ePk ((pkE id l (k + 1)))), .fl (.int .i64 0)]) rfl (og rfl (op_move rfl rfl rfl)) ?_
            refine dr_put (d := 53) (v := .d (.ag (ePk ((pkE id l (k + 1)))))) rfl (og rfl (op_extract rfl rfl rfl rfl)) ?_
            refine dr_put (d := 54) (v := .d (.fl (.int .i64 0))) rfl (og rfl (op_extract rfl rfl rfl rfl)) ?_
            refine dr_nam (d := 10) (v := .pt 104 0) (m := 104) (nw := [(104, .bx 33 ([.fl (.string (⟨#[]⟩)), .fl (.slice none 0 0), .fl (.slice none 0 0)]))]) rfl (og rfl (of_eff (s_alloc 104 rfl ti33 (by kernel_rfl) rfl) rfl)) ?_
            refine dr_sto (nw := [(104, .bx 33 ((ePk ((pkE id l (k + 1))))))]) rfl (og rfl (of_eff (s_store rfl rfl ti33 rfl rfl rfl rfl rfl rfl) rfl)) ?_
            refine dr_put (d := 11) (v := .d (.fl (.int .i64 0))) rfl (og rfl (op_assign rfl rfl rfl)) ?_
            refine dr_done rfl (by kernel_rfl) (by kernel_rfl) ?_
            refine a_seq ?_
            refine a_rseq ?_
            refine rg_put (d := 55) (v := .d (.fl (.int .i64 0))) rfl (og rfl (op_move rfl rfl rfl)) ?_
            refine rg_put (d := 56) (v := .d (.fl (.bool (0 != 0)))) rfl (og rfl (op_bin rfl rfl rfl (b_neq _ _ _ _) rfl)) ?_
            refine rg_done rfl ?_
            refine a_condF rfl (ne_self_b _) ?_
            refine a_skip ?_
            show A _ _ _ _ _ _ _
            refine a_seq ?_
            refine a_rseq ?_
            refine rg_put (d := 63) (v := .d (.ag (ePk (((pkE id l (k + 1))))))) rfl (og rfl (of_eff (s_load_pts rfl Try.underlying33 rfl ti33 rfl rfl rfl rfl) rfl)) ?_
            refine rg_put (d := 64) (v := .d (.fl (.bool true))) rfl (og rfl (op_call rfl Try.func20 nm20 rfl (.cons rfl (.d _) .nil) (ver_pk (okp_pkE (by omega) hl20 hO (k + 1))) rfl)) ?_
            refine rg_put (d := 65) (v := .d (.fl (.bool (!true)))) rfl (og rfl (op_un rfl rfl (u_not _) rfl)) ?_
            refine rg_put (d := 66) (v := .d (.fl (.bool (!true)))) rfl (og rfl (op_move rfl rfl rfl)) ?_
            refine rg_put (d := 67) (v := .pt 104 2) rfl (oy rfl rfl rfl rfl (of_eff (s_field_pt rfl Try.underlying33 rfl ti31 rfl rfl rfl) rfl)) ?_
            refine rg_put (d := 68) (v := .d (.sl 1 (List.map (rI .u64) (((pkE id l (k + 1))).chain)))) rfl (oy rfl rfl rfl rfl (op_load_pt rfl Try.underlying31 rfl rfl rfl rfl rfl)) ?_
            refine rg_put (d := 69) (v := .d (.fl (.int .i64 (((((pkE id l (k + 1))).chain).length : Int))))) rfl (oy rfl rfl rfl rfl (s_len rfl Try.underlying31 rfl rfl)) ?_
            refine rg_put (d := 70) (v := .d (.fl (.int .i64 (k : Int)))) rfl (oy rfl rfl rfl rfl (op_move rfl rfl rfl)) ?_
            refine rg_put (d := 71) (v := .d (.fl (.int .i64 (((k : Int) + 1))))) rfl (oy rfl rfl rfl rfl (op_bin rfl rfl rfl (fun x y w => b_add64 _ _ _ x y w (by omega)) rfl)) ?_
            refine rg_put (d := 72) (v := .d (.fl (.bool ((((((pkE id l (k + 1))).chain).length : Int) != ((k : Int) + 1)))))) rfl (oy rfl rfl rfl rfl (op_bin rfl rfl rfl (b_neq _ _ _ _) rfl)) ?_
            refine rg_put (d := 73) (v := .d (.fl (.bool ((((((pkE id l (k + 1))).chain).length : Int) != ((k : Int) + 1)))))) rfl (og rfl (op_pick rfl rfl rfl rfl)) ?_
            refine rg_done rfl ?_
            refine a_condF rfl (show (((((pkE id l (k + 1))).chain).length : Int) != ((k : Int) + 1)) = false by rw [pkE_len (by omega)]; simp) ?_
            refine a_skip ?_
            show A _ _ _ _ _ _ _
            refine a_region ?_
            refine rg_put (d := 74) (v := .d (.ag (ePk (((pkE id l (k + 1))))))) rfl (og rfl (of_eff (s_load_pts rfl Try.underlying33 rfl ti33 rfl rfl rfl rfl) rfl)) ?_
            refine rg_sto (nw := [(103, .bx 33 ((ePk (((pkE id l (k + 1)))))))]) rfl (og rfl (of_eff (s_store rfl rfl ti33 rfl rfl rfl rfl rfl rfl) rfl)) ?_
            refine rg_done rfl ?_
            show A _ _ _ _ _ _ _
            refine a_region ?_
            refine rg_put (d := 44) (v := .d (.fl (.int .i64 (k : Int)))) rfl (og rfl (op_move rfl rfl rfl)) ?_
            refine rg_put (d := 45) (v := .d (.fl (.int .i64 (((k : Int) + 1))))) rfl (og rfl (op_bin rfl rfl rfl (fun x y w => b_add64 _ _ _ x y w (by omega)) rfl)) ?_
            refine rg_put (d := 9) (v := .d (.fl (.int .i64 (((k : Int) + 1))))) rfl (og rfl (op_assign rfl rfl rfl)) ?_
            refine rg_done rfl ?_
            have hb : bk l k = 0 := f_bne h9
            show ∃ i, _ ∧ _ ∧ Imp _ _ _ _ _
            refine ⟨k + 1, ⟨by omega, fe_no (by omega) hc hb⟩, by omega, imp_forget rfl ⟨rfl, rfl, rfl, rfl, rfl, rfl, rfl, rfl, (by first | rfl | exact ci (by omega) | exact ci (by simp) | exact cd (by simp) | simp), trivial⟩ ⟨rfl, rfl, trivial⟩⟩
          · skip
            have h11 := t_bne h9
            refine dr_put (d := 52) (v := .tu [.ag (ePk (pkE id l k)), .fl (.int .i64 (bk l k))]) rfl (og rfl (op_call rfl Try.func18 nm18 rfl (.cons rfl (.d _) (.cons rfl (.d _) .nil)) (add18E (okp_pkE (by omega) hl20 hO k) (hO _ (ix_mem (by omega))) (add_stop (by omega) hl20 (t_bne h9))) rfl)) ?_
            refine dr_put (d := 46) (v := .tu [.ag (ePk (pkE id l k)), .fl (.int .i64 (bk l k))]) rfl (og rfl (op_move rfl rfl rfl)) ?_
            refine dr_put (d := 53) (v := .d (.ag (ePk (pkE id l k)))) rfl (og rfl (op_extract rfl rfl rfl rfl)) ?_
            refine dr_put (d := 54) (v := .d (.fl (.int .i64 (bk l k)))) rfl (og rfl (op_extract rfl rfl rfl rfl)) ?_
            refine dr_nam (d := 10) (v := .pt 105 0) (m := 105) (nw := [(105, .bx 33 ([.fl (.string (⟨#[]⟩)), .fl (.slice none 0 0), .fl (.slice none 0 0)]))]) rfl (og rfl (of_eff (s_alloc 105 rfl ti33 (by kernel_rfl) rfl) rfl)) ?_
            refine dr_sto (nw := [(105, .bx 33 ((ePk (pkE id l k))))]) rfl (og rfl (of_eff (s_store rfl rfl ti33 rfl rfl rfl rfl rfl rfl) rfl)) ?_
            refine dr_put (d := 11) (v := .d (.fl (.int .i64 (bk l k)))) rfl (og rfl (op_assign rfl rfl rfl)) ?_
            refine dr_done rfl (by kernel_rfl) (by kernel_rfl) ?_
            refine a_seq ?_
            refine a_rseq ?_
            refine rg_put (d := 55) (v := .d (.fl (.int .i64 (bk l k)))) rfl (og rfl (op_move rfl rfl rfl)) ?_
            refine rg_put (d := 56) (v := .d (.fl (.bool (((bk l k) != 0))))) rfl (og rfl (op_bin rfl rfl rfl (b_neq _ _ _ _) rfl)) ?_
            refine rg_done rfl ?_
            refine a_condK rfl h9 ?_
            refine a_rseq ?_
            refine rg_put (d := 57) (v := .d (.fl (.int .i64 ((bld id l).2)))) rfl (og rfl (op_move rfl rfl rfl)) ?_
            refine rg_put (d := 58) (v := .d (.fl (.int .i64 (bk l k)))) rfl (og rfl (op_move rfl rfl rfl)) ?_
            refine rg_put (d := 59) (v := .d (.fl (.bool (((bld id l).2 == (bk l k)))))) rfl (og rfl (op_bin rfl rfl rfl (b_eql _ _ _ _) rfl)) ?_
            refine rg_put (d := 60) (v := .d (.fl (.bool (((bld id l).2 == (bk l k)))))) rfl (og rfl (op_move rfl rfl rfl)) ?_
            refine rg_put (d := 61) (v := .d (.fl (.bool true))) rfl (oy rfl rfl rfl (show ((bld id l).2 == (bk l k)) = true by rw [bld_err h6 (lim20 hl20) (fe_yes (by omega) hc rfl (t_bne h9)) (t_bne h9)]; exact eq_self_b _) (op_call rfl Try.func11 nm11 rfl .nil awake11 rfl)) ?_
            refine rg_put (d := 62) (v := .d (.fl (.bool true))) rfl (og rfl (op_pick rfl rfl (by rw [(show ((bld id l).2 == (bk l k)) = true by rw [bld_err h6 (lim20 hl20) (fe_yes (by omega) hc rfl (t_bne h9)) (t_bne h9)]; exact eq_self_b _)]; rfl) rfl)) ?_
            refine rg_put (d := 4) (v := .d (.fl (.bool true))) rfl (og rfl (op_assign rfl rfl rfl)) ?_
            refine rg_done rfl ?_
            refine a_ret ?_
            show ∃ ds, ResL _ _ _ ds ∧ RV.of ds = _
            refine ⟨[.fl (.bool true)], (.cons (.tmp rfl (.d _)) .nil), ?_⟩
            rfl
        · skip
          have h12 := f_dec h7
          refine a_exit ?_
          show A _ _ _ _ _ _ _
          refine a_rseq ?_
          refine rg_put (d := 75) (v := .d (.fl (.int .i64 ((bld id l).2)))) rfl (og rfl (op_move rfl rfl rfl)) ?_
          refine rg_put (d := 76) (v := .d (.fl (.bool (((bld id l).2 == 0))))) rfl (og rfl (op_bin rfl rfl rfl (b_eql _ _ _ _) rfl)) ?_
          refine rg_put (d := 77) (v := .d (.fl (.bool (((bld id l).2 == 0))))) rfl (og rfl (op_move rfl rfl rfl)) ?_
          refine rg_put (d := 78) (v := .d (.ag (ePk (((bld id l).1))))) rfl (oy rfl rfl rfl (show ((bld id l).2 == 0) = true by rw [fe_end (by omega)] at hc; rw [bld_ok h6 (lim20 hl20) hc]; rfl) (of_eff (s_load_pts rfl Try.underlying33 rfl ti33 rfl rfl rfl rfl) rfl)) ?_
          refine rg_put (d := 79) (v := .d (.ag (ePk (pkE id l k)))) rfl (oy rfl rfl rfl (show ((bld id l).2 == 0) = true by rw [fe_end (by omega)] at hc; rw [bld_ok h6 (lim20 hl20) hc]; rfl) (of_eff (s_load_pts rfl Try.underlying33 rfl ti33 rfl rfl rfl rfl) rfl)) ?_
          refine rg_put (d := 80) (v := .d (.fl (.bool ((pkEq (((bld id l).1)) (pkE id l k)))))) rfl (oy rfl rfl rfl (show ((bld id l).2 == 0) = true by rw [fe_end (by omega)] at hc; rw [bld_ok h6 (lim20 hl20) hc]; rfl) (op_call rfl Try.func17 nm17 rfl (.cons rfl (.d _) (.cons rfl (.d _) .nil)) (samePk (((bld id l).1)) (pkE id l k) (okq_bld (by omega) hO) (okq_p (okp_pkE (by omega) hl20 hO k))) rfl)) ?_
          refine rg_put (d := 81) (v := .d (.fl (.bool ((pkEq (((bld id l).1)) (pkE id l k)))))) rfl (og rfl (op_pick rfl rfl (by rw [(show ((bld id l).2 == 0) = true by rw [fe_end (by omega)] at hc; rw [bld_ok h6 (lim20 hl20) hc]; rfl)]; rfl) rfl)) ?_
          refine rg_put (d := 82) (v := .d (.fl (.bool ((pkEq (((bld id l).1)) (pkE id l k)))))) rfl (og rfl (op_move rfl rfl rfl)) ?_
          refine rg_put (d := 83) (v := .d (.fl (.bool true))) rfl (oy rfl rfl rfl (show (pkEq (((bld id l).1)) (pkE id l k)) = true by rw [fe_end (by omega)] at hc; rw [bld_ok h6 (lim20 hl20) hc, pkE_all (by omega)]; exact pkEq_self _) (op_call rfl Try.func11 nm11 rfl .nil awake11 rfl)) ?_
          refine rg_put (d := 84) (v := .d (.fl (.bool true))) rfl (og rfl (op_pick rfl rfl (by rw [(show (pkEq (((bld id l).1)) (pkE id l k)) = true by rw [fe_end (by omega)] at hc; rw [bld_ok h6 (lim20 hl20) hc, pkE_all (by omega)]; exact pkEq_self _)]; rfl) rfl)) ?_
          refine rg_put (d := 4) (v := .d (.fl (.bool true))) rfl (og rfl (op_assign rfl rfl rfl)) ?_
          refine rg_done rfl ?_
          refine a_ret ?_
          show ∃ ds, ResL _ _ _ ds ∧ RV.of ds = _
          refine ⟨[.fl (.bool true)], (.cons (.tmp rfl (.d _)) .nil), ?_⟩
          rfl
  · skip
    have h13 := t_not h1
    refine rg_put (d := 16) (v := .d (.fl undef)) rfl (on rfl rfl rfl h1) ?_
    refine rg_put (d := 17) (v := .d (.fl undef)) rfl (on rfl rfl rfl h1) ?_
    refine rg_put (d := 18) (v := .d (.fl undef)) rfl (on rfl rfl rfl h1) ?_
    refine rg_put (d := 19) (v := .d (.fl (.bool true))) rfl (og rfl (op_pick rfl rfl (by rw [h1]; rfl) rfl)) ?_
    refine rg_done rfl ?_
    refine a_condK rfl rfl ?_
    refine a_rseq ?_
    refine rg_put (d := 20) (v := .d (.fl (.bool true))) rfl (og rfl (op_call rfl Try.func11 nm11 rfl .nil awake11 rfl)) ?_
    refine rg_put (d := 4) (v := .d (.fl (.bool true))) rfl (og rfl (op_assign rfl rfl rfl)) ?_
    refine rg_done rfl ?_
    refine a_ret ?_
    show ∃ ds, ResL _ _ _ ds ∧ RV.of ds = _
    refine ⟨[.fl (.bool true)], (.cons (.tmp rfl (.d _)) .nil), ?_⟩
    rfl
end Go.Proofs.Ytfkipmdaffhkbaa.Wk
