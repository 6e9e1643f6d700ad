/- The laws of digests, of building, of adding, of the first difference. Condition: the arguments read as data. -/
import Derived.Test.YtfkipmdaffhkbaaOp
import Derived.Test.YtfkipmdaffhkbaaC0
set_option linter.unusedSimpArgs false
set_option linter.unusedVariables false
namespace Go.Proofs.Ytfkipmdaffhkbaa.Wk
open Go Go.RowKit Go.Proofs.Ytfkipmdaffhkbaa.Av
theorem u64_r {n : Int} (h : (Lit.int .u64 n).wf = true) : 0 ≤ n ∧ n ≤ 18446744073709551615 := by simpa [Lit.wf, IntKind.min, IntKind.max, IntKind.signed, IntKind.bits] using h
theorem okd_one {im : Im} (h : okIm im) (h1 : oneB im = true) : Okd im := by
  unfold oneB at h1
  simp only [Bool.and_eq_true, List.all_eq_true, decide_eq_true_eq] at h1
  obtain ⟨⟨h2, h3⟩, h4⟩ := h1
  exact ⟨by omega, by omega, fun s hs => by have := h2 s hs; omega, i64_r h.2.1, i64_r h.2.2.1, u64_r h.2.2.2.2⟩
theorem okd_few {l : List Im} (h : ∀ im ∈ l, okIm im) (h1 : fewB l = true) : (∀ im ∈ l, Okd im) ∧ l.length ≤ 20 := by
  unfold fewB at h1
  simp only [Bool.and_eq_true, List.all_eq_true, decide_eq_true_eq] at h1
  exact ⟨fun im hi => okd_one (h im hi) (h1.1 im hi), h1.2⟩
theorem okp_few {p : Pk} (h : okPk p) (h1 : fewB p.images = true) (h2 : p.chain.length ≤ 40) (h3 : p.case.size ≤ 600) : Okp p :=
  ⟨by omega, by have := (okd_few h.2.1.2 h1).2; omega, by omega, (okd_few h.2.1.2 h1).1, fun x hx => u64_r (h.2.2.2 x hx)⟩
structure Okq (p : Pk) : Prop where
  l : p.images.length ≤ 2000
  z : ∀ im ∈ p.images, im.hold.length < 9223372036854775807
  n : p.chain.length < 9223372036854775807
theorem okq_z : Okq zPk := ⟨by decide, (fun im h => by cases h), by decide⟩
theorem okq_p {p : Pk} (h : Okp p) : Okq p := ⟨h.l, h.z, by have := h.n; omega⟩
theorem okq_bld {id : ByteArray} {l : List Im} (hl : l.length ≤ 2000) (hO : ∀ im ∈ l, Okd im) : Okq (bld id l).1 := by
  unfold bld
  split
  · exact okq_z
  · split
    · exact okq_z
    · split
      · exact okq_z
      · exact ⟨hl, fun im hi => by have := (hO im hi).l; omega, by show (fits id l).length < _; rw [fits_len]; omega⟩
theorem okq_add {p : Pk} {im : Im} (hP : Okp p) (hI : Okd im) (h9 : p.images.length ≤ 1999) : Okq (add p im).1 := by
  unfold add
  split
  · exact okq_p hP
  · split
    · exact okq_p hP
    · split
      · exact okq_p hP
      · refine ⟨by show (p.images ++ [im]).length ≤ 2000; simp; omega, fun x hx => ?_, ?_⟩
        · have hx' : x ∈ p.images ++ [im] := hx
          rcases List.mem_append.1 hx' with h | h
          · have := (hP.o x h).l; omega
          · have := List.mem_singleton.1 h; subst this; have := hI.l; omega
        · show (fits p.case (p.images ++ [im])).length < _
          rw [fits_len]; simp; omega

set_option maxHeartbeats 4000000 in
set_option maxRecDepth 100000 in
theorem samePk (a b : Pk) (hA : Okq a) (hB : Okq b) : Ctr Try.prog 17 [.ag (ePk a), .ag (ePk b)] (.d (.fl (.bool (pkEq a b)))) := by
  refine ctr (n := 23) (rs := #[.tmp 4]) (L := [(0, .d (.ag (ePk a))), (1, .d (.ag (ePk b)))]) Try.func17 rfl rfl rfl rfl rfl (fun w0 U0 => ?_)
  refine a_rseq ?_
  refine rg_nam (d := 2) (v := .pt 101 0) (m := 101) (nw := [(101, .bx 33 (ePk a))]) rfl (og rfl (of_eff (op_box 101 rfl rfl rfl rfl) rfl)) rfl ?_
  refine rg_nam (d := 3) (v := .pt 102 0) (m := 102) (nw := [(102, .bx 33 (ePk b))]) rfl (og rfl (of_eff (op_box 102 rfl rfl rfl rfl) rfl)) rfl ?_
  refine rg_put (d := 4) (v := .d (.fl (.bool false))) rfl (og rfl (op_assign rfl rfl rfl)) ?_
  refine rg_done rfl ?_
  refine a_rseq ?_
  refine rg_put (d := 5) (v := .pt 101 0) rfl (og rfl (of_eff (s_field_pt rfl Try.underlying33 rfl ti9 rfl rfl rfl) rfl)) ?_
  refine rg_put (d := 6) (v := .d (.fl (.string a.case))) rfl (og rfl (op_load_pt rfl Try.underlying9 rfl rfl rfl rfl rfl)) ?_
  refine rg_put (d := 7) (v := .pt 102 0) rfl (og rfl (of_eff (s_field_pt rfl Try.underlying33 rfl ti9 rfl rfl rfl) rfl)) ?_
  refine rg_put (d := 8) (v := .d (.fl (.string b.case))) rfl (og rfl (op_load_pt rfl Try.underlying9 rfl rfl rfl rfl rfl)) ?_
  refine rg_put (d := 9) (v := .d (.fl (.bool (sEq a.case b.case)))) rfl (og rfl (op_bin rfl rfl rfl (b_seq _ _ _) rfl)) ?_
  refine rg_put (d := 10) (v := .d (.fl (.bool (sEq a.case b.case)))) rfl (og rfl (op_move rfl rfl rfl)) ?_
  rcases fot (sEq a.case b.case) with h1 | h1
  · skip
    refine rg_put (d := 11) (v := .d (.fl undef)) rfl (on rfl rfl rfl h1) ?_
    refine rg_put (d := 12) (v := .d (.fl undef)) rfl (on rfl rfl rfl h1) ?_
    refine rg_put (d := 13) (v := .d (.fl undef)) rfl (on rfl rfl rfl h1) ?_
    refine rg_put (d := 14) (v := .d (.fl undef)) rfl (on rfl rfl rfl h1) ?_
    refine rg_put (d := 15) (v := .d (.fl (.bool false))) rfl (og rfl (op_pick rfl rfl (by rw [h1]; rfl) rfl)) ?_
    refine rg_put (d := 16) (v := .d (.fl (.bool false))) rfl (og rfl (op_move rfl rfl rfl)) ?_
    refine rg_put (d := 17) (v := .d (.fl undef)) rfl (on rfl rfl rfl rfl) ?_
    refine rg_put (d := 18) (v := .d (.fl undef)) rfl (on rfl rfl rfl rfl) ?_
    refine rg_put (d := 19) (v := .d (.fl undef)) rfl (on rfl rfl rfl rfl) ?_
    refine rg_put (d := 20) (v := .d (.fl undef)) rfl (on rfl rfl rfl rfl) ?_
    refine rg_put (d := 21) (v := .d (.fl undef)) rfl (on rfl rfl rfl rfl) ?_
    refine rg_put (d := 22) (v := .d (.fl (.bool false))) rfl (og rfl (op_pick rfl rfl rfl rfl)) ?_
    refine rg_put (d := 4) (v := .d (.fl (.bool false))) rfl (og rfl (op_assign rfl rfl rfl)) ?_
    refine rg_done rfl ?_
    refine a_ret ?_
    show ∃ ds, ResL _ _ _ ds ∧ RV.of ds = _
    refine ⟨[.fl (.bool false)], (.cons (.tmp rfl (.d _)) .nil), ?_⟩
    have hu : pkEq a b = false := by
      unfold pkEq; simp only [h1, Bool.true_and, Bool.false_and, Bool.and_false, Bool.and_true, Bool.not_true, Bool.not_false]
    rw [hu]; rfl
  · skip
    refine rg_put (d := 11) (v := .d (.ag (ePk a))) rfl (oy rfl rfl rfl h1 (of_eff (s_load_pts rfl Try.underlying33 rfl ti33 rfl rfl rfl rfl) rfl)) ?_
    refine rg_put (d := 12) (v := .d (.ag (ePk b))) rfl (oy rfl rfl rfl h1 (of_eff (s_load_pts rfl Try.underlying33 rfl ti33 rfl rfl rfl rfl) rfl)) ?_
    refine rg_put (d := 13) (v := .d (.fl (.int .i64 (fstD a.images b.images)))) rfl (oy rfl rfl rfl h1 (op_call rfl Try.func22 nm22 rfl (.cons rfl (.d _) (.cons rfl (.d _) .nil)) (first22 a b hA.l hB.l hA.z) rfl)) ?_
    refine rg_put (d := 14) (v := .d (.fl (.bool ((decide ((fstD a.images b.images) < 0)))))) rfl (oy rfl rfl rfl h1 (op_bin rfl rfl rfl (b_lss _ _ _ _) rfl)) ?_
    refine rg_put (d := 15) (v := .d (.fl (.bool ((decide ((fstD a.images b.images) < 0)))))) rfl (og rfl (op_pick rfl rfl (by rw [h1]; rfl) rfl)) ?_
    refine rg_put (d := 16) (v := .d (.fl (.bool ((decide ((fstD a.images b.images) < 0)))))) rfl (og rfl (op_move rfl rfl rfl)) ?_
    rcases fot ((decide ((fstD a.images b.images) < 0))) with h2 | h2
    · skip
      have h3 := f_dec h2
      refine rg_put (d := 17) (v := .d (.fl undef)) rfl (on rfl rfl rfl h2) ?_
      refine rg_put (d := 18) (v := .d (.fl undef)) rfl (on rfl rfl rfl h2) ?_
      refine rg_put (d := 19) (v := .d (.fl undef)) rfl (on rfl rfl rfl h2) ?_
      refine rg_put (d := 20) (v := .d (.fl undef)) rfl (on rfl rfl rfl h2) ?_
      refine rg_put (d := 21) (v := .d (.fl undef)) rfl (on rfl rfl rfl h2) ?_
      refine rg_put (d := 22) (v := .d (.fl (.bool false))) rfl (og rfl (op_pick rfl rfl (by rw [h2]; rfl) rfl)) ?_
      refine rg_put (d := 4) (v := .d (.fl (.bool false))) rfl (og rfl (op_assign rfl rfl rfl)) ?_
      refine rg_done rfl ?_
      refine a_ret ?_
      show ∃ ds, ResL _ _ _ ds ∧ RV.of ds = _
      refine ⟨[.fl (.bool false)], (.cons (.tmp rfl (.d _)) .nil), ?_⟩
      have hu : pkEq a b = false := by
        unfold pkEq; simp only [h1, h2, Bool.true_and, Bool.false_and, Bool.and_false, Bool.and_true, Bool.not_true, Bool.not_false]
      rw [hu]; rfl
    · skip
      have h4 := t_dec h2
      refine rg_put (d := 17) (v := .pt 101 2) rfl (oy rfl rfl rfl h2 (of_eff (s_field_pt rfl Try.underlying33 rfl ti31 rfl rfl rfl) rfl)) ?_
      refine rg_put (d := 18) (v := .d (.sl 1 (List.map (rI .u64) a.chain))) rfl (oy rfl rfl rfl h2 (op_load_pt rfl Try.underlying31 rfl rfl rfl rfl rfl)) ?_
      refine rg_put (d := 19) (v := .pt 102 2) rfl (oy rfl rfl rfl h2 (of_eff (s_field_pt rfl Try.underlying33 rfl ti31 rfl rfl rfl) rfl)) ?_
      refine rg_put (d := 20) (v := .d (.sl 1 (List.map (rI .u64) b.chain))) rfl (oy rfl rfl rfl h2 (op_load_pt rfl Try.underlying31 rfl rfl rfl rfl rfl)) ?_
      refine rg_put (d := 21) (v := .d (.fl (.bool (lEq a.chain b.chain)))) rfl (oy rfl rfl rfl h2 (op_call rfl Try.func27 nm27 rfl (.cons rfl (.d _) (.cons rfl (.d _) .nil)) (eqU27 a.chain b.chain (by have := hA.n; omega)) rfl)) ?_
      refine rg_put (d := 22) (v := .d (.fl (.bool (lEq a.chain b.chain)))) rfl (og rfl (op_pick rfl rfl (by rw [h2]; rfl) rfl)) ?_
      refine rg_put (d := 4) (v := .d (.fl (.bool (lEq a.chain b.chain)))) rfl (og rfl (op_assign rfl rfl rfl)) ?_
      refine rg_done rfl ?_
      refine a_ret ?_
      show ∃ ds, ResL _ _ _ ds ∧ RV.of ds = _
      refine ⟨[.fl (.bool (lEq a.chain b.chain))], (.cons (.tmp rfl (.d _)) .nil), ?_⟩
      have hu : pkEq a b = (lEq a.chain b.chain) := by
        unfold pkEq; simp only [h1, h2, Bool.true_and, Bool.false_and, Bool.and_false, Bool.and_true, Bool.not_true, Bool.not_false]
      rw [hu]; rfl
set_option maxHeartbeats 4000000 in
set_option maxRecDepth 100000 in
theorem law3 (im : Im) (hW : okIm im) : Ctr Try.prog 3 [.ag (eIm im)] (.d (.fl (.bool true))) := by
  refine ctr (n := 15) (rs := #[.tmp 2]) (L := [(0, .d (.ag (eIm im)))]) Try.func3 rfl rfl rfl rfl rfl (fun w0 U0 => ?_)
  refine a_rseq ?_
  refine rg_nam (d := 1) (v := .pt 101 0) (m := 101) (nw := [(101, .bx 25 (eIm im))]) rfl (og rfl (of_eff (op_box 101 rfl rfl rfl rfl) rfl)) rfl ?_
  refine rg_put (d := 2) (v := .d (.fl (.bool false))) rfl (og rfl (op_assign rfl rfl rfl)) ?_
  refine rg_done rfl ?_
  refine a_seq ?_
  refine a_rseq ?_
  refine rg_put (d := 3) (v := .d (.ag (eIm im))) rfl (og rfl (of_eff (s_load_pts rfl Try.underlying25 rfl ti25 rfl rfl rfl rfl) rfl)) ?_
  refine rg_put (d := 4) (v := .d (.fl (.bool (oneB im)))) rfl (og rfl (op_call rfl Try.func10 nm10 rfl (.cons rfl (.d _) .nil) (one10 im hW.2.2.2.1.1) rfl)) ?_
  refine rg_put (d := 5) (v := .d (.fl (.bool ((!(oneB im)))))) rfl (og rfl (op_un rfl rfl (u_not _) rfl)) ?_
  refine rg_done rfl ?_
  refine a_cond rfl (fun h1 => ?_) (fun h1 => ?_)
  · skip
    have h2 := t_not h1
    refine a_rseq ?_
    refine rg_put (d := 6) (v := .d (.fl (.bool true))) rfl (og rfl (op_call rfl Try.func11 nm11 rfl .nil awake11 rfl)) ?_
    refine rg_put (d := 2) (v := .d (.fl (.bool true))) rfl (og rfl (op_assign rfl rfl rfl)) ?_
    refine rg_done rfl ?_
    refine a_ret ?_
    show ∃ ds, ResL _ _ _ ds ∧ RV.of ds = _
    refine ⟨[.fl (.bool true)], (.cons (.tmp rfl (.d _)) .nil), ?_⟩
    rfl
  · skip
    have h3 := f_not h1
    refine a_skip ?_
    show A _ _ _ _ _ _ _
    refine a_dseq (by kernel_rfl) ?_
    have hO := okd_one hW h3
    refine dr_put (d := 7) (v := .d (.ag (eIm im))) rfl (og rfl (of_eff (s_load_pts rfl Try.underlying25 rfl ti25 rfl rfl rfl rfl) rfl)) ?_
    refine dr_put (d := 8) (v := .d (.fl (.int .u64 (dgI im)))) rfl (og rfl (op_call rfl Try.func12 nm12 rfl (.cons rfl (.d _) .nil) (digest12 im hO) rfl)) ?_
    refine dr_put (d := 9) (v := .d (.ag (eIm im))) rfl (og rfl (of_eff (s_load_pts rfl Try.underlying25 rfl ti25 rfl rfl rfl rfl) rfl)) ?_
    refine dr_put (d := 10) (v := .d (.fl (.int .u64 (dgI im)))) rfl (og rfl (op_call rfl Try.func13 nm13 rfl (.cons rfl (.d _) .nil) (digest13 im hO) rfl)) ?_
    refine dr_put (d := 11) (v := .d (.fl (.bool (((dgI im) == (dgI im)))))) rfl (og rfl (op_bin rfl rfl rfl (b_eql _ _ _ _) rfl)) ?_
    refine dr_put (d := 12) (v := .d (.fl (.bool (((dgI im) == (dgI im)))))) rfl (og rfl (op_move rfl rfl rfl)) ?_
    refine dr_put (d := 13) (v := .d (.fl (.bool true))) rfl (oy rfl rfl rfl (eq_self_b _) (op_call rfl Try.func11 nm11 rfl .nil awake11 rfl)) ?_
    refine dr_put (d := 14) (v := .d (.fl (.bool true))) rfl (og rfl (op_pick rfl rfl (by rw [(eq_self_b _)]; rfl) rfl)) ?_
    refine dr_put (d := 2) (v := .d (.fl (.bool true))) rfl (og rfl (op_assign rfl rfl rfl)) ?_
    refine dr_done rfl (by kernel_rfl) (by kernel_rfl) ?_
    refine a_ret ?_
    show ∃ ds, ResL _ _ _ ds ∧ RV.of ds = _
    refine ⟨[.fl (.bool true)], (.cons (.tmp rfl (.d _)) .nil), ?_⟩
    rfl
set_option maxHeartbeats 4000000 in
set_option maxRecDepth 100000 in
theorem law4 (id : ByteArray) (l : List Im) (hW : l.length ≤ 9223372036854775807 ∧ ∀ a ∈ l, okIm a) : Ctr Try.prog 4 [.fl (.string id), .sl 5 (List.map eIm l)] (.d (.fl (.bool true))) := by
  refine ctr (n := 41) (rs := #[.tmp 4]) (L := [(0, .d (.fl (.string id))), (1, .d (.sl 5 (List.map eIm l)))]) Try.func4 rfl rfl rfl rfl rfl (fun w0 U0 => ?_)
  refine a_rseq ?_
  refine rg_put (d := 4) (v := .d (.fl (.bool false))) rfl (og rfl (op_assign rfl rfl rfl)) ?_
  refine rg_done rfl ?_
  refine a_seq ?_
  refine a_rseq ?_
  refine rg_put (d := 9) (v := .d (.sl 5 (List.map eIm l))) rfl (og rfl (op_move rfl rfl rfl)) ?_
  refine rg_put (d := 10) (v := .d (.fl (.bool (fewB l)))) rfl (og rfl (op_call rfl Try.func14 nm14 rfl (.cons rfl (.d _) .nil) (few14 l hW.1 (fun x hx => (hW.2 x hx).2.2.2.1.1)) rfl)) ?_
  refine rg_put (d := 11) (v := .d (.fl (.bool ((!(fewB l)))))) rfl (og rfl (op_un rfl rfl (u_not _) rfl)) ?_
  refine rg_put (d := 12) (v := .d (.fl (.bool ((!(fewB l)))))) rfl (og rfl (op_move rfl rfl rfl)) ?_
  rcases fot ((!(fewB l))) with h1 | h1
  · skip
    have h2 := f_not h1
    refine rg_put (d := 13) (v := .d (.fl (.string id))) rfl (oy rfl rfl rfl h1 (op_move rfl rfl rfl)) ?_
    refine rg_put (d := 14) (v := .d (.fl (.int .i64 (id.size : Int)))) rfl (oy rfl rfl rfl h1 (op_len_str rfl Try.underlying9 rfl rfl)) ?_
    refine rg_put (d := 15) (v := .d (.fl (.bool ((decide (600 < (id.size : Int))))))) rfl (oy rfl rfl rfl h1 (op_bin rfl rfl rfl (b_gtr _ _ _ _) rfl)) ?_
    refine rg_put (d := 16) (v := .d (.fl (.bool ((decide (600 < (id.size : Int))))))) rfl (og rfl (op_pick rfl rfl (by rw [h1]; rfl) rfl)) ?_
    refine rg_done rfl ?_
    refine a_cond rfl (fun h3 => ?_) (fun h3 => ?_)
    · skip
      have h4 := t_dec h3
      refine a_rseq ?_
      refine rg_put (d := 17) (v := .d (.fl (.bool true))) rfl (og rfl (op_call rfl Try.func11 nm11 rfl .nil awake11 rfl)) ?_
      refine rg_put (d := 4) (v := .d (.fl (.bool true))) rfl (og rfl (op_assign rfl rfl rfl)) ?_
      refine rg_done rfl ?_
      refine a_ret ?_
      show ∃ ds, ResL _ _ _ ds ∧ RV.of ds = _
      refine ⟨[.fl (.bool true)], (.cons (.tmp rfl (.d _)) .nil), ?_⟩
      rfl
    · skip
      have h5 := f_dec h3
      refine a_skip ?_
      show A _ _ _ _ _ _ _
      refine a_rseq ?_
      obtain ⟨hO, hl20⟩ := okd_few hW.2 h2
      refine rg_put (d := 19) (v := .d (.fl (.string id))) rfl (og rfl (op_move rfl rfl rfl)) ?_
      refine rg_put (d := 20) (v := .d (.sl 5 (List.map eIm l))) rfl (og rfl (op_move rfl rfl rfl)) ?_
      refine rg_put (d := 21) (v := .tu [.ag (ePk ((bld id l).1)), .fl (.int .i64 ((bld id l).2))]) rfl (og rfl (op_call rfl Try.func15 nm15 rfl (.cons rfl (.d _) (.cons rfl (.d _) .nil)) (build15 id l (by omega) (by omega) hO) rfl)) ?_
      refine rg_put (d := 18) (v := .tu [.ag (ePk ((bld id l).1)), .fl (.int .i64 ((bld id l).2))]) rfl (og rfl (op_move rfl rfl rfl)) ?_
      refine rg_put (d := 22) (v := .d (.ag (ePk ((bld id l).1)))) rfl (og rfl (op_extract rfl rfl rfl rfl)) ?_
      refine rg_put (d := 23) (v := .d (.fl (.int .i64 ((bld id l).2)))) rfl (og rfl (op_extract rfl rfl rfl rfl)) ?_
      refine rg_nam (d := 5) (v := .pt 101 0) (m := 101) (nw := [(101, .bx 33 ([.fl (.string (⟨#[]⟩)), .fl (.slice none 0 0), .fl (.slice none 0 0)]))]) rfl (og rfl (of_eff (s_alloc 101 rfl ti33 (by kernel_rfl) rfl) rfl)) rfl ?_
      refine rg_sto (nw := [(101, .bx 33 ((ePk ((bld id l).1))))]) rfl (og rfl (of_eff (s_store rfl rfl ti33 rfl rfl rfl rfl rfl rfl) rfl)) ?_
      refine rg_put (d := 6) (v := .d (.fl (.int .i64 ((bld id l).2)))) rfl (og rfl (op_assign rfl rfl rfl)) ?_
      refine rg_done rfl ?_
      refine a_rseq ?_
      refine rg_put (d := 25) (v := .d (.fl (.string id))) rfl (og rfl (op_move rfl rfl rfl)) ?_
      refine rg_put (d := 26) (v := .d (.sl 5 (List.map eIm l))) rfl (og rfl (op_move rfl rfl rfl)) ?_
      refine rg_put (d := 27) (v := .tu [.ag (ePk ((bld id l).1)), .fl (.int .i64 ((bld id l).2))]) rfl (og rfl (op_call rfl Try.func16 nm16 rfl (.cons rfl (.d _) (.cons rfl (.d _) .nil)) (build16 id l (by omega) (by omega) hO) rfl)) ?_
      refine rg_put (d := 24) (v := .tu [.ag (ePk ((bld id l).1)), .fl (.int .i64 ((bld id l).2))]) rfl (og rfl (op_move rfl rfl rfl)) ?_
      refine rg_put (d := 28) (v := .d (.ag (ePk ((bld id l).1)))) rfl (og rfl (op_extract rfl rfl rfl rfl)) ?_
      refine rg_put (d := 29) (v := .d (.fl (.int .i64 ((bld id l).2)))) rfl (og rfl (op_extract rfl rfl rfl rfl)) ?_
      refine rg_nam (d := 7) (v := .pt 102 0) (m := 102) (nw := [(102, .bx 33 ([.fl (.string (⟨#[]⟩)), .fl (.slice none 0 0), .fl (.slice none 0 0)]))]) rfl (og rfl (of_eff (s_alloc 102 rfl ti33 (by kernel_rfl) rfl) rfl)) rfl ?_
      refine rg_sto (nw := [(102, .bx 33 ((ePk ((bld id l).1))))]) rfl (og rfl (of_eff (s_store rfl rfl ti33 rfl rfl rfl rfl rfl rfl) rfl)) ?_
      refine rg_put (d := 8) (v := .d (.fl (.int .i64 ((bld id l).2)))) rfl (og rfl (op_assign rfl rfl rfl)) ?_
      refine rg_done rfl ?_
      refine a_rseq ?_
      refine rg_put (d := 30) (v := .d (.fl (.int .i64 ((bld id l).2)))) rfl (og rfl (op_move rfl rfl rfl)) ?_
      refine rg_put (d := 31) (v := .d (.fl (.int .i64 ((bld id l).2)))) rfl (og rfl (op_move rfl rfl rfl)) ?_
      refine rg_put (d := 32) (v := .d (.fl (.bool (((bld id l).2 == (bld id l).2))))) rfl (og rfl (op_bin rfl rfl rfl (b_eql _ _ _ _) rfl)) ?_
      refine rg_put (d := 33) (v := .d (.fl (.bool (((bld id l).2 == (bld id l).2))))) rfl (og rfl (op_move rfl rfl rfl)) ?_
      refine rg_put (d := 34) (v := .d (.ag (ePk (((bld id l).1))))) rfl (oy rfl rfl rfl (eq_self_b _) (of_eff (s_load_pts rfl Try.underlying33 rfl ti33 rfl rfl rfl rfl) rfl)) ?_
      refine rg_put (d := 35) (v := .d (.ag (ePk (((bld id l).1))))) rfl (oy rfl rfl rfl (eq_self_b _) (of_eff (s_load_pts rfl Try.underlying33 rfl ti33 rfl rfl rfl rfl) rfl)) ?_
      refine rg_put (d := 36) (v := .d (.fl (.bool ((pkEq (((bld id l).1)) (((bld id l).1))))))) rfl (oy rfl rfl rfl (eq_self_b _) (op_call rfl Try.func17 nm17 rfl (.cons rfl (.d _) (.cons rfl (.d _) .nil)) (samePk (((bld id l).1)) (((bld id l).1)) (okq_bld (by omega) hO) (okq_bld (by omega) hO)) rfl)) ?_
      refine rg_put (d := 37) (v := .d (.fl (.bool ((pkEq (((bld id l).1)) (((bld id l).1))))))) rfl (og rfl (op_pick rfl rfl (by rw [(eq_self_b _)]; rfl) rfl)) ?_
      refine rg_put (d := 38) (v := .d (.fl (.bool ((pkEq (((bld id l).1)) (((bld id l).1))))))) rfl (og rfl (op_move rfl rfl rfl)) ?_
      refine rg_put (d := 39) (v := .d (.fl (.bool true))) rfl (oy rfl rfl rfl (pkEq_self _) (op_call rfl Try.func11 nm11 rfl .nil awake11 rfl)) ?_
      refine rg_put (d := 40) (v := .d (.fl (.bool true))) rfl (og rfl (op_pick rfl rfl (by rw [(pkEq_self _)]; rfl) rfl)) ?_
      refine rg_put (d := 4) (v := .d (.fl (.bool true))) rfl (og rfl (op_assign rfl rfl rfl)) ?_
      refine rg_done rfl ?_
      refine a_ret ?_
      show ∃ ds, ResL _ _ _ ds ∧ RV.of ds = _
      refine ⟨[.fl (.bool true)], (.cons (.tmp rfl (.d _)) .nil), ?_⟩
      rfl
  · skip
    have h6 := t_not h1
    refine rg_put (d := 13) (v := .d (.fl undef)) rfl (on rfl rfl rfl h1) ?_
    refine rg_put (d := 14) (v := .d (.fl undef)) rfl (on rfl rfl rfl h1) ?_
    refine rg_put (d := 15) (v := .d (.fl undef)) rfl (on rfl rfl rfl h1) ?_
    refine rg_put (d := 16) (v := .d (.fl (.bool true))) rfl (og rfl (op_pick rfl rfl (by rw [h1]; rfl) rfl)) ?_
    refine rg_done rfl ?_
    refine a_condK rfl rfl ?_
    refine a_rseq ?_
    refine rg_put (d := 17) (v := .d (.fl (.bool true))) rfl (og rfl (op_call rfl Try.func11 nm11 rfl .nil awake11 rfl)) ?_
    refine rg_put (d := 4) (v := .d (.fl (.bool true))) rfl (og rfl (op_assign rfl rfl rfl)) ?_
    refine rg_done rfl ?_
    refine a_ret ?_
    show ∃ ds, ResL _ _ _ ds ∧ RV.of ds = _
    refine ⟨[.fl (.bool true)], (.cons (.tmp rfl (.d _)) .nil), ?_⟩
    rfl
set_option maxHeartbeats 4000000 in
set_option maxRecDepth 100000 in
theorem law5 (p : Pk) (im : Im) (hW : okPk p) (hV : okIm im) : Ctr Try.prog 5 [.ag (ePk p), .ag (eIm im)] (.d (.fl (.bool true))) := by
  refine ctr (n := 61) (rs := #[.tmp 4]) (L := [(0, .d (.ag (ePk p))), (1, .d (.ag (eIm im)))]) Try.func5 rfl rfl rfl rfl rfl (fun w0 U0 => ?_)
  refine a_rseq ?_
  refine rg_nam (d := 2) (v := .pt 101 0) (m := 101) (nw := [(101, .bx 33 (ePk p))]) rfl (og rfl (of_eff (op_box 101 rfl rfl rfl rfl) rfl)) rfl ?_
  refine rg_nam (d := 3) (v := .pt 102 0) (m := 102) (nw := [(102, .bx 25 (eIm im))]) rfl (og rfl (of_eff (op_box 102 rfl rfl rfl rfl) rfl)) rfl ?_
  refine rg_put (d := 4) (v := .d (.fl (.bool false))) rfl (og rfl (op_assign rfl rfl rfl)) ?_
  refine rg_done rfl ?_
  refine a_seq ?_
  refine a_rseq ?_
  refine rg_put (d := 9) (v := .pt 101 1) rfl (og rfl (of_eff (s_field_pt rfl Try.underlying33 rfl ti29 rfl rfl rfl) rfl)) ?_
  refine rg_put (d := 10) (v := .d (.sl 5 (List.map eIm p.images))) rfl (og rfl (op_load_pt rfl Try.underlying29 rfl rfl rfl rfl rfl)) ?_
  refine rg_put (d := 11) (v := .d (.fl (.bool (fewB p.images)))) rfl (og rfl (op_call rfl Try.func14 nm14 rfl (.cons rfl (.d _) .nil) (few14 p.images hW.2.1.1 (fun x hx => (hW.2.1.2 x hx).2.2.2.1.1)) rfl)) ?_
  refine rg_put (d := 12) (v := .d (.fl (.bool ((!(fewB p.images)))))) rfl (og rfl (op_un rfl rfl (u_not _) rfl)) ?_
  refine rg_put (d := 13) (v := .d (.fl (.bool ((!(fewB p.images)))))) rfl (og rfl (op_move rfl rfl rfl)) ?_
  rcases fot ((!(fewB p.images))) with h1 | h1
  · skip
    have h2 := f_not h1
    refine rg_put (d := 14) (v := .pt 101 2) rfl (oy rfl rfl rfl h1 (of_eff (s_field_pt rfl Try.underlying33 rfl ti31 rfl rfl rfl) rfl)) ?_
    refine rg_put (d := 15) (v := .d (.sl 1 (List.map (rI .u64) p.chain))) rfl (oy rfl rfl rfl h1 (op_load_pt rfl Try.underlying31 rfl rfl rfl rfl rfl)) ?_
    refine rg_put (d := 16) (v := .d (.fl (.int .i64 (p.chain.length : Int)))) rfl (oy rfl rfl rfl h1 (s_len rfl Try.underlying31 rfl rfl)) ?_
    refine rg_put (d := 17) (v := .d (.fl (.bool ((decide (40 < (p.chain.length : Int))))))) rfl (oy rfl rfl rfl h1 (op_bin rfl rfl rfl (b_gtr _ _ _ _) rfl)) ?_
    refine rg_put (d := 18) (v := .d (.fl (.bool ((decide (40 < (p.chain.length : Int))))))) rfl (og rfl (op_pick rfl rfl (by rw [h1]; rfl) rfl)) ?_
    refine rg_put (d := 19) (v := .d (.fl (.bool ((decide (40 < (p.chain.length : Int))))))) rfl (og rfl (op_move rfl rfl rfl)) ?_
    rcases fot ((decide (40 < (p.chain.length : Int)))) with h3 | h3
    · skip
      have h4 := f_dec h3
      refine rg_put (d := 20) (v := .pt 101 0) rfl (oy rfl rfl rfl h3 (of_eff (s_field_pt rfl Try.underlying33 rfl ti9 rfl rfl rfl) rfl)) ?_
      refine rg_put (d := 21) (v := .d (.fl (.string p.case))) rfl (oy rfl rfl rfl h3 (op_load_pt rfl Try.underlying9 rfl rfl rfl rfl rfl)) ?_
      refine rg_put (d := 22) (v := .d (.fl (.int .i64 (p.case.size : Int)))) rfl (oy rfl rfl rfl h3 (op_len_str rfl Try.underlying9 rfl rfl)) ?_
      refine rg_put (d := 23) (v := .d (.fl (.bool ((decide (600 < (p.case.size : Int))))))) rfl (oy rfl rfl rfl h3 (op_bin rfl rfl rfl (b_gtr _ _ _ _) rfl)) ?_
      refine rg_put (d := 24) (v := .d (.fl (.bool ((decide (600 < (p.case.size : Int))))))) rfl (og rfl (op_pick rfl rfl (by rw [h3]; rfl) rfl)) ?_
      refine rg_put (d := 25) (v := .d (.fl (.bool ((decide (600 < (p.case.size : Int))))))) rfl (og rfl (op_move rfl rfl rfl)) ?_
      rcases fot ((decide (600 < (p.case.size : Int)))) with h5 | h5
      · skip
        have h6 := f_dec h5
        refine rg_put (d := 26) (v := .d (.ag (eIm im))) rfl (oy rfl rfl rfl h5 (of_eff (s_load_pts rfl Try.underlying25 rfl ti25 rfl rfl rfl rfl) rfl)) ?_
        refine rg_put (d := 27) (v := .d (.fl (.bool (oneB im)))) rfl (oy rfl rfl rfl h5 (op_call rfl Try.func10 nm10 rfl (.cons rfl (.d _) .nil) (one10 im hV.2.2.2.1.1) rfl)) ?_
        refine rg_put (d := 28) (v := .d (.fl (.bool ((!(oneB im)))))) rfl (oy rfl rfl rfl h5 (op_un rfl rfl (u_not _) rfl)) ?_
        refine rg_put (d := 29) (v := .d (.fl (.bool ((!(oneB im)))))) rfl (og rfl (op_pick rfl rfl (by rw [h5]; rfl) rfl)) ?_
        refine rg_done rfl ?_
        refine a_cond rfl (fun h7 => ?_) (fun h7 => ?_)
        · skip
          have h8 := t_not h7
          refine a_rseq ?_
          refine rg_put (d := 30) (v := .d (.fl (.bool true))) rfl (og rfl (op_call rfl Try.func11 nm11 rfl .nil awake11 rfl)) ?_
          refine rg_put (d := 4) (v := .d (.fl (.bool true))) rfl (og rfl (op_assign rfl rfl rfl)) ?_
          refine rg_done rfl ?_
          refine a_ret ?_
          show ∃ ds, ResL _ _ _ ds ∧ RV.of ds = _
          refine ⟨[.fl (.bool true)], (.cons (.tmp rfl (.d _)) .nil), ?_⟩
          rfl
        · skip
          have h9 := f_not h7
          refine a_skip ?_
          show A _ _ _ _ _ _ _
          refine a_rseq ?_
          have hP := okp_few hW h2 (by omega) (by omega)
          have hI := okd_one hV h9
          have hl20 := (okd_few hW.2.1.2 h2).2
          refine rg_put (d := 32) (v := .d (.ag (ePk p))) rfl (og rfl (of_eff (s_load_pts rfl Try.underlying33 rfl ti33 rfl rfl rfl rfl) rfl)) ?_
          refine rg_put (d := 33) (v := .d (.ag (eIm im))) rfl (og rfl (of_eff (s_load_pts rfl Try.underlying25 rfl ti25 rfl rfl rfl rfl) rfl)) ?_
          refine rg_put (d := 34) (v := .tu [.ag (ePk ((add p im).1)), .fl (.int .i64 ((add p im).2))]) rfl (og rfl (op_call rfl Try.func18 nm18 rfl (.cons rfl (.d _) (.cons rfl (.d _) .nil)) (add18 p im hP hI) rfl)) ?_
          refine rg_put (d := 31) (v := .tu [.ag (ePk ((add p im).1)), .fl (.int .i64 ((add p im).2))]) rfl (og rfl (op_move rfl rfl rfl)) ?_
          refine rg_put (d := 35) (v := .d (.ag (ePk ((add p im).1)))) rfl (og rfl (op_extract rfl rfl rfl rfl)) ?_
          refine rg_put (d := 36) (v := .d (.fl (.int .i64 ((add p im).2)))) rfl (og rfl (op_extract rfl rfl rfl rfl)) ?_
          refine rg_nam (d := 5) (v := .pt 103 0) (m := 103) (nw := [(103, .bx 33 ([.fl (.string (⟨#[]⟩)), .fl (.slice none 0 0), .fl (.slice none 0 0)]))]) rfl (og rfl (of_eff (s_alloc 103 rfl ti33 (by kernel_rfl) rfl) rfl)) rfl ?_
          refine rg_sto (nw := [(103, .bx 33 ((ePk ((add p im).1))))]) rfl (og rfl (of_eff (s_store rfl rfl ti33 rfl rfl rfl rfl rfl rfl) rfl)) ?_
          refine rg_put (d := 6) (v := .d (.fl (.int .i64 ((add p im).2)))) rfl (og rfl (op_assign rfl rfl rfl)) ?_
          refine rg_done rfl ?_
          refine a_rseq ?_
          refine rg_put (d := 38) (v := .d (.ag (ePk p))) rfl (og rfl (of_eff (s_load_pts rfl Try.underlying33 rfl ti33 rfl rfl rfl rfl) rfl)) ?_
          refine rg_put (d := 39) (v := .d (.ag (eIm im))) rfl (og rfl (of_eff (s_load_pts rfl Try.underlying25 rfl ti25 rfl rfl rfl rfl) rfl)) ?_
          refine rg_put (d := 40) (v := .tu [.ag (ePk ((add p im).1)), .fl (.int .i64 ((add p im).2))]) rfl (og rfl (op_call rfl Try.func19 nm19 rfl (.cons rfl (.d _) (.cons rfl (.d _) .nil)) (add19 p im hP hI) rfl)) ?_
          refine rg_put (d := 37) (v := .tu [.ag (ePk ((add p im).1)), .fl (.int .i64 ((add p im).2))]) rfl (og rfl (op_move rfl rfl rfl)) ?_
          refine rg_put (d := 41) (v := .d (.ag (ePk ((add p im).1)))) rfl (og rfl (op_extract rfl rfl rfl rfl)) ?_
          refine rg_put (d := 42) (v := .d (.fl (.int .i64 ((add p im).2)))) rfl (og rfl (op_extract rfl rfl rfl rfl)) ?_
          refine rg_nam (d := 7) (v := .pt 104 0) (m := 104) (nw := [(104, .bx 33 ([.fl (.string (⟨#[]⟩)), .fl (.slice none 0 0), .fl (.slice none 0 0)]))]) rfl (og rfl (of_eff (s_alloc 104 rfl ti33 (by kernel_rfl) rfl) rfl)) rfl ?_
          refine rg_sto (nw := [(104, .bx 33 ((ePk ((add p im).1))))]) rfl (og rfl (of_eff (s_store rfl rfl ti33 rfl rfl rfl rfl rfl rfl) rfl)) ?_
          refine rg_put (d := 8) (v := .d (.fl (.int .i64 ((add p im).2)))) rfl (og rfl (op_assign rfl rfl rfl)) ?_
          refine rg_done rfl ?_
          refine a_dseq (by kernel_rfl) ?_
          refine dr_put (d := 43) (v := .d (.fl (.int .i64 ((add p im).2)))) rfl (og rfl (op_move rfl rfl rfl)) ?_
          refine dr_put (d := 44) (v := .d (.fl (.int .i64 ((add p im).2)))) rfl (og rfl (op_move rfl rfl rfl)) ?_
          refine dr_put (d := 45) (v := .d (.fl (.bool (((add p im).2 == (add p im).2))))) rfl (og rfl (op_bin rfl rfl rfl (b_eql _ _ _ _) rfl)) ?_
          refine dr_put (d := 46) (v := .d (.fl (.bool (((add p im).2 == (add p im).2))))) rfl (og rfl (op_move rfl rfl rfl)) ?_
          refine dr_put (d := 47) (v := .d (.ag (ePk (((add p im).1))))) rfl (oy rfl rfl rfl (eq_self_b _) (of_eff (s_load_pts rfl Try.underlying33 rfl ti33 rfl rfl rfl rfl) rfl)) ?_
          refine dr_put (d := 48) (v := .d (.ag (ePk (((add p im).1))))) rfl (oy rfl rfl rfl (eq_self_b _) (of_eff (s_load_pts rfl Try.underlying33 rfl ti33 rfl rfl rfl rfl) rfl)) ?_
          refine dr_put (d := 49) (v := .d (.fl (.bool ((pkEq (((add p im).1)) (((add p im).1))))))) rfl (oy rfl rfl rfl (eq_self_b _) (op_call rfl Try.func17 nm17 rfl (.cons rfl (.d _) (.cons rfl (.d _) .nil)) (samePk (((add p im).1)) (((add p im).1)) (okq_add hP hI (by omega)) (okq_add hP hI (by omega))) rfl)) ?_
          refine dr_put (d := 50) (v := .d (.fl (.bool ((pkEq (((add p im).1)) (((add p im).1))))))) rfl (og rfl (op_pick rfl rfl (by rw [(eq_self_b _)]; rfl) rfl)) ?_
          refine dr_put (d := 51) (v := .d (.fl (.bool ((pkEq (((add p im).1)) (((add p im).1))))))) rfl (og rfl (op_move rfl rfl rfl)) ?_
          refine dr_put (d := 52) (v := .d (.ag (ePk p))) rfl (oy rfl rfl rfl (pkEq_self _) (of_eff (s_load_pts rfl Try.underlying33 rfl ti33 rfl rfl rfl rfl) rfl)) ?_
          refine dr_put (d := 53) (v := .d (.fl (.bool ((lEq p.chain (fits p.case p.images)))))) rfl (oy rfl rfl rfl (pkEq_self _) (op_call rfl Try.func20 nm20 rfl (.cons rfl (.d _) .nil) (verify20 p hP) rfl)) ?_
          refine dr_put (d := 54) (v := .d (.ag (ePk p))) rfl (oy rfl rfl rfl (pkEq_self _) (of_eff (s_load_pts rfl Try.underlying33 rfl ti33 rfl rfl rfl rfl) rfl)) ?_
          refine dr_put (d := 55) (v := .d (.fl (.bool ((lEq p.chain (fits p.case p.images)))))) rfl (oy rfl rfl rfl (pkEq_self _) (op_call rfl Try.func21 nm21 rfl (.cons rfl (.d _) .nil) (verify21 p hP) rfl)) ?_
          refine dr_put (d := 56) (v := .d (.fl (.bool (((lEq p.chain (fits p.case p.images)) == (lEq p.chain (fits p.case p.images))))))) rfl (oy rfl rfl rfl (pkEq_self _) (op_bin rfl rfl rfl (fun x y w => b_beq _ _ _ x y w Try.underlying4) rfl)) ?_
          refine dr_put (d := 57) (v := .d (.fl (.bool (((lEq p.chain (fits p.case p.images)) == (lEq p.chain (fits p.case p.images))))))) rfl (og rfl (op_pick rfl rfl (by rw [(pkEq_self _)]; rfl) rfl)) ?_
          refine dr_put (d := 58) (v := .d (.fl (.bool (((lEq p.chain (fits p.case p.images)) == (lEq p.chain (fits p.case p.images))))))) rfl (og rfl (op_move rfl rfl rfl)) ?_
          refine dr_put (d := 59) (v := .d (.fl (.bool true))) rfl (oy rfl rfl rfl (eq_self_bb _) (op_call rfl Try.func11 nm11 rfl .nil awake11 rfl)) ?_
          refine dr_put (d := 60) (v := .d (.fl (.bool true))) rfl (og rfl (op_pick rfl rfl (by rw [(eq_self_bb _)]; rfl) rfl)) ?_
          refine dr_put (d := 4) (v := .d (.fl (.bool true))) rfl (og rfl (op_assign rfl rfl rfl)) ?_
          refine dr_done rfl (sepB_of [0, 0, 3, 7, 15, 15, 63, 127, 255, 511, 1023, 511, 4095, 8191, 16383, 32767, 65535, 131071, 262143] (by kernel_rfl)) (by kernel_rfl) ?_
          refine a_ret ?_
          show ∃ ds, ResL _ _ _ ds ∧ RV.of ds = _
          refine ⟨[.fl (.bool true)], (.cons (.tmp rfl (.d _)) .nil), ?_⟩
          rfl
      · skip
        have h10 := t_dec h5
        refine rg_put (d := 26) (v := .d (.fl undef)) rfl (on rfl rfl rfl h5) ?_
        refine rg_put (d := 27) (v := .d (.fl undef)) rfl (on rfl rfl rfl h5) ?_
        refine rg_put (d := 28) (v := .d (.fl undef)) rfl (on rfl rfl rfl h5) ?_
        refine rg_put (d := 29) (v := .d (.fl (.bool true))) rfl (og rfl (op_pick rfl rfl (by rw [h5]; rfl) rfl)) ?_
        refine rg_done rfl ?_
        refine a_condK rfl rfl ?_
        refine a_rseq ?_
        refine rg_put (d := 30) (v := .d (.fl (.bool true))) rfl (og rfl (op_call rfl Try.func11 nm11 rfl .nil awake11 rfl)) ?_
        refine rg_put (d := 4) (v := .d (.fl (.bool true))) rfl (og rfl (op_assign rfl rfl rfl)) ?_
        refine rg_done rfl ?_
        refine a_ret ?_
        show ∃ ds, ResL _ _ _ ds ∧ RV.of ds = _
        refine ⟨[.fl (.bool true)], (.cons (.tmp rfl (.d _)) .nil), ?_⟩
        rfl
    · skip
      have h11 := t_dec h3
      refine rg_put (d := 20) (v := .d (.fl undef)) rfl (on rfl rfl rfl h3) ?_
      refine rg_put (d := 21) (v := .d (.fl undef)) rfl (on rfl rfl rfl h3) ?_
      refine rg_put (d := 22) (v := .d (.fl undef)) rfl (on rfl rfl rfl h3) ?_
      refine rg_put (d := 23) (v := .d (.fl undef)) rfl (on rfl rfl rfl h3) ?_
      refine rg_put (d := 24) (v := .d (.fl (.bool true))) rfl (og rfl (op_pick rfl rfl (by rw [h3]; rfl) rfl)) ?_
      refine rg_put (d := 25) (v := .d (.fl (.bool true))) rfl (og rfl (op_move rfl rfl rfl)) ?_
      refine rg_put (d := 26) (v := .d (.fl undef)) rfl (on rfl rfl rfl rfl) ?_
      refine rg_put (d := 27) (v := .d (.fl undef)) rfl (on rfl rfl rfl rfl) ?_
      refine rg_put (d := 28) (v := .d (.fl undef)) rfl (on rfl rfl rfl rfl) ?_
      refine rg_put (d := 29) (v := .d (.fl (.bool true))) rfl (og rfl (op_pick rfl rfl rfl rfl)) ?_
      refine rg_done rfl ?_
      refine a_condK rfl rfl ?_
      refine a_rseq ?_
      refine rg_put (d := 30) (v := .d (.fl (.bool true))) rfl (og rfl (op_call rfl Try.func11 nm11 rfl .nil awake11 rfl)) ?_
      refine rg_put (d := 4) (v := .d (.fl (.bool true))) rfl (og rfl (op_assign rfl rfl rfl)) ?_
      refine rg_done rfl ?_
      refine a_ret ?_
      show ∃ ds, ResL _ _ _ ds ∧ RV.of ds = _
      refine ⟨[.fl (.bool true)], (.cons (.tmp rfl (.d _)) .nil), ?_⟩
      rfl
  · skip
    have h12 := t_not h1
    refine rg_put (d := 14) (v := .d (.fl undef)) rfl (on rfl rfl rfl h1) ?_
    refine rg_put (d := 15) (v := .d (.fl undef)) rfl (on rfl rfl rfl h1) ?_
    refine rg_put (d := 16) (v := .d (.fl undef)) rfl (on rfl rfl rfl h1) ?_
    refine rg_put (d := 17) (v := .d (.fl undef)) rfl (on rfl rfl rfl h1) ?_
    refine rg_put (d := 18) (v := .d (.fl (.bool true))) rfl (og rfl (op_pick rfl rfl (by rw [h1]; rfl) rfl)) ?_
    refine rg_put (d := 19) (v := .d (.fl (.bool true))) rfl (og rfl (op_move rfl rfl rfl)) ?_
    refine rg_put (d := 20) (v := .d (.fl undef)) rfl (on rfl rfl rfl rfl) ?_
    refine rg_put (d := 21) (v := .d (.fl undef)) rfl (on rfl rfl rfl rfl) ?_
    refine rg_put (d := 22) (v := .d (.fl undef)) rfl (on rfl rfl rfl rfl) ?_
    refine rg_put (d := 23) (v := .d (.fl undef)) rfl (on rfl rfl rfl rfl) ?_
    refine rg_put (d := 24) (v := .d (.fl (.bool true))) rfl (og rfl (op_pick rfl rfl rfl rfl)) ?_
    refine rg_put (d := 25) (v := .d (.fl (.bool true))) rfl (og rfl (op_move rfl rfl rfl)) ?_
    refine rg_put (d := 26) (v := .d (.fl undef)) rfl (on rfl rfl rfl rfl) ?_
    refine rg_put (d := 27) (v := .d (.fl undef)) rfl (on rfl rfl rfl rfl) ?_
    refine rg_put (d := 28) (v := .d (.fl undef)) rfl (on rfl rfl rfl rfl) ?_
    refine rg_put (d := 29) (v := .d (.fl (.bool true))) rfl (og rfl (op_pick rfl rfl rfl rfl)) ?_
    refine rg_done rfl ?_
    refine a_condK rfl rfl ?_
    refine a_rseq ?_
    refine rg_put (d := 30) (v := .d (.fl (.bool true))) rfl (og rfl (op_call rfl Try.func11 nm11 rfl .nil awake11 rfl)) ?_
    refine rg_put (d := 4) (v := .d (.fl (.bool true))) rfl (og rfl (op_assign rfl rfl rfl)) ?_
    refine rg_done rfl ?_
    refine a_ret ?_
    show ∃ ds, ResL _ _ _ ds ∧ RV.of ds = _
    refine ⟨[.fl (.bool true)], (.cons (.tmp rfl (.d _)) .nil), ?_⟩
    rfl
set_option maxHeartbeats 4000000 in
set_option maxRecDepth 100000 in
theorem law6 (a b : Pk) (hW : okPk a) (hV : okPk b) : Ctr Try.prog 6 [.ag (ePk a), .ag (ePk b)] (.d (.fl (.bool true))) := by
  refine ctr (n := 47) (rs := #[.tmp 4]) (L := [(0, .d (.ag (ePk a))), (1, .d (.ag (ePk b)))]) Try.func6 rfl rfl rfl rfl rfl (fun w0 U0 => ?_)
  refine a_rseq ?_
  refine rg_nam (d := 2) (v := .pt 101 0) (m := 101) (nw := [(101, .bx 33 (ePk a))]) rfl (og rfl (of_eff (op_box 101 rfl rfl rfl rfl) rfl)) rfl ?_
  refine rg_nam (d := 3) (v := .pt 102 0) (m := 102) (nw := [(102, .bx 33 (ePk b))]) rfl (og rfl (of_eff (op_box 102 rfl rfl rfl rfl) rfl)) rfl ?_
  refine rg_put (d := 4) (v := .d (.fl (.bool false))) rfl (og rfl (op_assign rfl rfl rfl)) ?_
  refine rg_done rfl ?_
  refine a_seq ?_
  refine a_rseq ?_
  refine rg_put (d := 6) (v := .pt 101 1) rfl (og rfl (of_eff (s_field_pt rfl Try.underlying33 rfl ti29 rfl rfl rfl) rfl)) ?_
  refine rg_put (d := 7) (v := .d (.sl 5 (List.map eIm a.images))) rfl (og rfl (op_load_pt rfl Try.underlying29 rfl rfl rfl rfl rfl)) ?_
  refine rg_put (d := 8) (v := .d (.fl (.bool (fewB a.images)))) rfl (og rfl (op_call rfl Try.func14 nm14 rfl (.cons rfl (.d _) .nil) (few14 a.images hW.2.1.1 (fun x hx => (hW.2.1.2 x hx).2.2.2.1.1)) rfl)) ?_
  refine rg_put (d := 9) (v := .d (.fl (.bool ((!(fewB a.images)))))) rfl (og rfl (op_un rfl rfl (u_not _) rfl)) ?_
  refine rg_put (d := 10) (v := .d (.fl (.bool ((!(fewB a.images)))))) rfl (og rfl (op_move rfl rfl rfl)) ?_
  rcases fot ((!(fewB a.images))) with h1 | h1
  · skip
    have h2 := f_not h1
    refine rg_put (d := 11) (v := .pt 102 1) rfl (oy rfl rfl rfl h1 (of_eff (s_field_pt rfl Try.underlying33 rfl ti29 rfl rfl rfl) rfl)) ?_
    refine rg_put (d := 12) (v := .d (.sl 5 (List.map eIm b.images))) rfl (oy rfl rfl rfl h1 (op_load_pt rfl Try.underlying29 rfl rfl rfl rfl rfl)) ?_
    refine rg_put (d := 13) (v := .d (.fl (.bool (fewB b.images)))) rfl (oy rfl rfl rfl h1 (op_call rfl Try.func14 nm14 rfl (.cons rfl (.d _) .nil) (few14 b.images hV.2.1.1 (fun x hx => (hV.2.1.2 x hx).2.2.2.1.1)) rfl)) ?_
    refine rg_put (d := 14) (v := .d (.fl (.bool ((!(fewB b.images)))))) rfl (oy rfl rfl rfl h1 (op_un rfl rfl (u_not _) rfl)) ?_
    refine rg_put (d := 15) (v := .d (.fl (.bool ((!(fewB b.images)))))) rfl (og rfl (op_pick rfl rfl (by rw [h1]; rfl) rfl)) ?_
    refine rg_put (d := 16) (v := .d (.fl (.bool ((!(fewB b.images)))))) rfl (og rfl (op_move rfl rfl rfl)) ?_
    rcases fot ((!(fewB b.images))) with h3 | h3
    · skip
      have h4 := f_not h3
      refine rg_put (d := 17) (v := .pt 101 2) rfl (oy rfl rfl rfl h3 (of_eff (s_field_pt rfl Try.underlying33 rfl ti31 rfl rfl rfl) rfl)) ?_
      refine rg_put (d := 18) (v := .d (.sl 1 (List.map (rI .u64) a.chain))) rfl (oy rfl rfl rfl h3 (op_load_pt rfl Try.underlying31 rfl rfl rfl rfl rfl)) ?_
      refine rg_put (d := 19) (v := .d (.fl (.int .i64 (a.chain.length : Int)))) rfl (oy rfl rfl rfl h3 (s_len rfl Try.underlying31 rfl rfl)) ?_
      refine rg_put (d := 20) (v := .d (.fl (.bool ((decide (40 < (a.chain.length : Int))))))) rfl (oy rfl rfl rfl h3 (op_bin rfl rfl rfl (b_gtr _ _ _ _) rfl)) ?_
      refine rg_put (d := 21) (v := .d (.fl (.bool ((decide (40 < (a.chain.length : Int))))))) rfl (og rfl (op_pick rfl rfl (by rw [h3]; rfl) rfl)) ?_
      refine rg_put (d := 22) (v := .d (.fl (.bool ((decide (40 < (a.chain.length : Int))))))) rfl (og rfl (op_move rfl rfl rfl)) ?_
      rcases fot ((decide (40 < (a.chain.length : Int)))) with h5 | h5
      · skip
        have h6 := f_dec h5
        refine rg_put (d := 23) (v := .pt 102 2) rfl (oy rfl rfl rfl h5 (of_eff (s_field_pt rfl Try.underlying33 rfl ti31 rfl rfl rfl) rfl)) ?_
        refine rg_put (d := 24) (v := .d (.sl 1 (List.map (rI .u64) b.chain))) rfl (oy rfl rfl rfl h5 (op_load_pt rfl Try.underlying31 rfl rfl rfl rfl rfl)) ?_
        refine rg_put (d := 25) (v := .d (.fl (.int .i64 (b.chain.length : Int)))) rfl (oy rfl rfl rfl h5 (s_len rfl Try.underlying31 rfl rfl)) ?_
        refine rg_put (d := 26) (v := .d (.fl (.bool ((decide (40 < (b.chain.length : Int))))))) rfl (oy rfl rfl rfl h5 (op_bin rfl rfl rfl (b_gtr _ _ _ _) rfl)) ?_
        refine rg_put (d := 27) (v := .d (.fl (.bool ((decide (40 < (b.chain.length : Int))))))) rfl (og rfl (op_pick rfl rfl (by rw [h5]; rfl) rfl)) ?_
        refine rg_done rfl ?_
        refine a_cond rfl (fun h7 => ?_) (fun h7 => ?_)
        · skip
          have h8 := t_dec h7
          refine a_rseq ?_
          refine rg_put (d := 28) (v := .d (.fl (.bool true))) rfl (og rfl (op_call rfl Try.func11 nm11 rfl .nil awake11 rfl)) ?_
          refine rg_put (d := 4) (v := .d (.fl (.bool true))) rfl (og rfl (op_assign rfl rfl rfl)) ?_
          refine rg_done rfl ?_
          refine a_ret ?_
          show ∃ ds, ResL _ _ _ ds ∧ RV.of ds = _
          refine ⟨[.fl (.bool true)], (.cons (.tmp rfl (.d _)) .nil), ?_⟩
          rfl
        · skip
          have h9 := f_dec h7
          refine a_skip ?_
          show A _ _ _ _ _ _ _
          refine a_rseq ?_
          obtain ⟨hOa, hla⟩ := okd_few hW.2.1.2 h2
          have hza : ∀ im ∈ a.images, im.hold.length < 9223372036854775807 := fun im hi => by have := (hOa im hi).l; omega
          obtain ⟨hOb, hlb⟩ := okd_few hV.2.1.2 h4
          have hzb : ∀ im ∈ b.images, im.hold.length < 9223372036854775807 := fun im hi => by have := (hOb im hi).l; omega
          refine rg_put (d := 29) (v := .d (.ag (ePk a))) rfl (og rfl (of_eff (s_load_pts rfl Try.underlying33 rfl ti33 rfl rfl rfl rfl) rfl)) ?_
          refine rg_put (d := 30) (v := .d (.ag (ePk b))) rfl (og rfl (of_eff (s_load_pts rfl Try.underlying33 rfl ti33 rfl rfl rfl rfl) rfl)) ?_
          refine rg_put (d := 31) (v := .d (.fl (.int .i64 (fstD a.images b.images)))) rfl (og rfl (op_call rfl Try.func22 nm22 rfl (.cons rfl (.d _) (.cons rfl (.d _) .nil)) (first22 a b (by omega) (by omega) hza) rfl)) ?_
          refine rg_put (d := 5) (v := .d (.fl (.int .i64 (fstD a.images b.images)))) rfl (og rfl (op_assign rfl rfl rfl)) ?_
          refine rg_done rfl ?_
          refine a_rseq ?_
          refine rg_put (d := 32) (v := .d (.ag (ePk a))) rfl (og rfl (of_eff (s_load_pts rfl Try.underlying33 rfl ti33 rfl rfl rfl rfl) rfl)) ?_
          refine rg_put (d := 33) (v := .d (.ag (ePk b))) rfl (og rfl (of_eff (s_load_pts rfl Try.underlying33 rfl ti33 rfl rfl rfl rfl) rfl)) ?_
          refine rg_put (d := 34) (v := .d (.fl (.int .i64 (fstD a.images b.images)))) rfl (og rfl (op_call rfl Try.func23 nm23 rfl (.cons rfl (.d _) (.cons rfl (.d _) .nil)) (first23 a b (by omega) (by omega) hza) rfl)) ?_
          refine rg_put (d := 35) (v := .d (.fl (.int .i64 (fstD a.images b.images)))) rfl (og rfl (op_move rfl rfl rfl)) ?_
          refine rg_put (d := 36) (v := .d (.fl (.bool (((fstD a.images b.images) == (fstD a.images b.images)))))) rfl (og rfl (op_bin rfl rfl rfl (b_eql _ _ _ _) rfl)) ?_
          refine rg_put (d := 37) (v := .d (.fl (.bool (((fstD a.images b.images) == (fstD a.images b.images)))))) rfl (og rfl (op_move rfl rfl rfl)) ?_
          refine rg_put (d := 38) (v := .d (.ag (ePk b))) rfl (oy rfl rfl rfl (eq_self_b _) (of_eff (s_load_pts rfl Try.underlying33 rfl ti33 rfl rfl rfl rfl) rfl)) ?_
          refine rg_put (d := 39) (v := .d (.ag (ePk a))) rfl (oy rfl rfl rfl (eq_self_b _) (of_eff (s_load_pts rfl Try.underlying33 rfl ti33 rfl rfl rfl rfl) rfl)) ?_
          refine rg_put (d := 40) (v := .d (.fl (.int .i64 (fstD b.images a.images)))) rfl (oy rfl rfl rfl (eq_self_b _) (op_call rfl Try.func23 nm23 rfl (.cons rfl (.d _) (.cons rfl (.d _) .nil)) (first23 b a (by omega) (by omega) hzb) rfl)) ?_
          refine rg_put (d := 41) (v := .d (.fl (.int .i64 (fstD a.images b.images)))) rfl (oy rfl rfl rfl (eq_self_b _) (op_move rfl rfl rfl)) ?_
          refine rg_put (d := 42) (v := .d (.fl (.bool (((fstD b.images a.images) == (fstD a.images b.images)))))) rfl (oy rfl rfl rfl (eq_self_b _) (op_bin rfl rfl rfl (b_eql _ _ _ _) rfl)) ?_
          refine rg_put (d := 43) (v := .d (.fl (.bool (((fstD b.images a.images) == (fstD a.images b.images)))))) rfl (og rfl (op_pick rfl rfl (by rw [(eq_self_b _)]; rfl) rfl)) ?_
          refine rg_put (d := 44) (v := .d (.fl (.bool (((fstD b.images a.images) == (fstD a.images b.images)))))) rfl (og rfl (op_move rfl rfl rfl)) ?_
          refine rg_put (d := 45) (v := .d (.fl (.bool true))) rfl (oy rfl rfl rfl (show ((fstD b.images a.images) == (fstD a.images b.images)) = true by rw [fstD_comm]; exact eq_self_b _) (op_call rfl Try.func11 nm11 rfl .nil awake11 rfl)) ?_
          refine rg_put (d := 46) (v := .d (.fl (.bool true))) rfl (og rfl (op_pick rfl rfl (by rw [(show ((fstD b.images a.images) == (fstD a.images b.images)) = true by rw [fstD_comm]; exact eq_self_b _)]; rfl) rfl)) ?_
          refine rg_put (d := 4) (v := .d (.fl (.bool true))) rfl (og rfl (op_assign rfl rfl rfl)) ?_
          refine rg_done rfl ?_
          refine a_ret ?_
          show ∃ ds, ResL _ _ _ ds ∧ RV.of ds = _
          refine ⟨[.fl (.bool true)], (.cons (.tmp rfl (.d _)) .nil), ?_⟩
          rfl
      · skip
        have h10 := t_dec h5
        refine rg_put (d := 23) (v := .d (.fl undef)) rfl (on rfl rfl rfl h5) ?_
        refine rg_put (d := 24) (v := .d (.fl undef)) rfl (on rfl rfl rfl h5) ?_
        refine rg_put (d := 25) (v := .d (.fl undef)) rfl (on rfl rfl rfl h5) ?_
        refine rg_put (d := 26) (v := .d (.fl undef)) rfl (on rfl rfl rfl h5) ?_
        refine rg_put (d := 27) (v := .d (.fl (.bool true))) rfl (og rfl (op_pick rfl rfl (by rw [h5]; rfl) rfl)) ?_
        refine rg_done rfl ?_
        refine a_condK rfl rfl ?_
        refine a_rseq ?_
        refine rg_put (d := 28) (v := .d (.fl (.bool true))) rfl (og rfl (op_call rfl Try.func11 nm11 rfl .nil awake11 rfl)) ?_
        refine rg_put (d := 4) (v := .d (.fl (.bool true))) rfl (og rfl (op_assign rfl rfl rfl)) ?_
        refine rg_done rfl ?_
        refine a_ret ?_
        show ∃ ds, ResL _ _ _ ds ∧ RV.of ds = _
        refine ⟨[.fl (.bool true)], (.cons (.tmp rfl (.d _)) .nil), ?_⟩
        rfl
    · skip
      have h11 := t_not h3
      refine rg_put (d := 17) (v := .d (.fl undef)) rfl (on rfl rfl rfl h3) ?_
      refine rg_put (d := 18) (v := .d (.fl undef)) rfl (on rfl rfl rfl h3) ?_
      refine rg_put (d := 19) (v := .d (.fl undef)) rfl (on rfl rfl rfl h3) ?_
      refine rg_put (d := 20) (v := .d (.fl undef)) rfl (on rfl rfl rfl h3) ?_
      refine rg_put (d := 21) (v := .d (.fl (.bool true))) rfl (og rfl (op_pick rfl rfl (by rw [h3]; rfl) rfl)) ?_
      refine rg_put (d := 22) (v := .d (.fl (.bool true))) rfl (og rfl (op_move rfl rfl rfl)) ?_
      refine rg_put (d := 23) (v := .d (.fl undef)) rfl (on rfl rfl rfl rfl) ?_
      refine rg_put (d := 24) (v := .d (.fl undef)) rfl (on rfl rfl rfl rfl) ?_
      refine rg_put (d := 25) (v := .d (.fl undef)) rfl (on rfl rfl rfl rfl) ?_
      refine rg_put (d := 26) (v := .d (.fl undef)) rfl (on rfl rfl rfl rfl) ?_
      refine rg_put (d := 27) (v := .d (.fl (.bool true))) rfl (og rfl (op_pick rfl rfl rfl rfl)) ?_
      refine rg_done rfl ?_
      refine a_condK rfl rfl ?_
      refine a_rseq ?_
      refine rg_put (d := 28) (v := .d (.fl (.bool true))) rfl (og rfl (op_call rfl Try.func11 nm11 rfl .nil awake11 rfl)) ?_
      refine rg_put (d := 4) (v := .d (.fl (.bool true))) rfl (og rfl (op_assign rfl rfl rfl)) ?_
      refine rg_done rfl ?_
      refine a_ret ?_
      show ∃ ds, ResL _ _ _ ds ∧ RV.of ds = _
      refine ⟨[.fl (.bool true)], (.cons (.tmp rfl (.d _)) .nil), ?_⟩
      rfl
  · skip
    have h12 := t_not h1
    refine rg_put (d := 11) (v := .d (.fl undef)) rfl (on rfl rfl rfl h1) ?_
    refine rg_put (d := 12) (v := .d (.fl undef)) rfl (on rfl rfl rfl h1) ?_
    refine rg_put (d := 13) (v := .d (.fl undef)) rfl (on rfl rfl rfl h1) ?_
    refine rg_put (d := 14) (v := .d (.fl undef)) rfl (on rfl rfl rfl h1) ?_
    refine rg_put (d := 15) (v := .d (.fl (.bool true))) rfl (og rfl (op_pick rfl rfl (by rw [h1]; rfl) rfl)) ?_
    refine rg_put (d := 16) (v := .d (.fl (.bool true))) rfl (og rfl (op_move rfl rfl rfl)) ?_
    refine rg_put (d := 17) (v := .d (.fl undef)) rfl (on rfl rfl rfl rfl) ?_
    refine rg_put (d := 18) (v := .d (.fl undef)) rfl (on rfl rfl rfl rfl) ?_
    refine rg_put (d := 19) (v := .d (.fl undef)) rfl (on rfl rfl rfl rfl) ?_
    refine rg_put (d := 20) (v := .d (.fl undef)) rfl (on rfl rfl rfl rfl) ?_
    refine rg_put (d := 21) (v := .d (.fl (.bool true))) rfl (og rfl (op_pick rfl rfl rfl rfl)) ?_
    refine rg_put (d := 22) (v := .d (.fl (.bool true))) rfl (og rfl (op_move rfl rfl rfl)) ?_
    refine rg_put (d := 23) (v := .d (.fl undef)) rfl (on rfl rfl rfl rfl) ?_
    refine rg_put (d := 24) (v := .d (.fl undef)) rfl (on rfl rfl rfl rfl) ?_
    refine rg_put (d := 25) (v := .d (.fl undef)) rfl (on rfl rfl rfl rfl) ?_
    refine rg_put (d := 26) (v := .d (.fl undef)) rfl (on rfl rfl rfl rfl) ?_
    refine rg_put (d := 27) (v := .d (.fl (.bool true))) rfl (og rfl (op_pick rfl rfl rfl rfl)) ?_
    refine rg_done rfl ?_
    refine a_condK rfl rfl ?_
    refine a_rseq ?_
    refine rg_put (d := 28) (v := .d (.fl (.bool true))) rfl (og rfl (op_call rfl Try.func11 nm11 rfl .nil awake11 rfl)) ?_
    refine rg_put (d := 4) (v := .d (.fl (.bool true))) rfl (og rfl (op_assign rfl rfl rfl)) ?_
    refine rg_done rfl ?_
    refine a_ret ?_
    show ∃ ds, ResL _ _ _ ds ∧ RV.of ds = _
    refine ⟨[.fl (.bool true)], (.cons (.tmp rfl (.d _)) .nil), ?_⟩
    rfl
end Go.Proofs.Ytfkipmdaffhkbaa.Wk
