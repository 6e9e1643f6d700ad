/- Images that go. Condition: lists of at most a thousand. -/
import Derived.Test.YtaecdkhpidligaaR12
set_option linter.unusedSimpArgs false
set_option linter.unusedVariables false
namespace Go.Proofs.Ytaecdkhpidligaa.Wr
open Go Go.RowKit Go.Proofs.Ytaecdkhpidligaa.Av Go.Proofs.Ytaecdkhpidligaa.Wk
def kp (l : List Kp) (m : List Im) (c : List Int) (t : Int) (k : Nat) : Bool := ((unt l (ix m k) (ix c k)).2 == 32) || ((unt l (ix m k) (ix c k)).2 == 11) || (((unt l (ix m k) (ix c k)).2 == 0) && decide (t < (unt l (ix m k) (ix c k)).1))
def kA (l : List Kp) (m : List Im) (c : List Int) (t : Int) : Nat → List Im
  | 0 => []
  | k + 1 => if kp l m c t k = true then kA l m c t k ++ [ix m k] else kA l m c t k
def kB (l : List Kp) (m : List Im) (c : List Int) (t : Int) : Nat → List ByteArray
  | 0 => []
  | k + 1 => if kp l m c t k = true then kB l m c t k else kB l m c t k ++ [(ix m k).id]
def er (l : List Kp) (m : List Im) (c : List Int) (t : Int) (k : Nat) : Int := if kp l m c t k = true then 0 else (unt l (ix m k) (ix c k)).2
def purge (l : List Kp) (m : List Im) (c : List Int) (t : Int) : (List Im × List ByteArray) × Int :=
  if (ck l != 0) = true then (([], []), ck l) else if ((c.length : Int) != (m.length : Int)) = true then (([], []), 1) else if (!isT t) = true then (([], []), 12) else
  if fe (er l m c t) 0 m.length = 0 then ((kA l m c t m.length, kB l m c t m.length), 0) else (([], []), fe (er l m c t) 0 m.length)
theorem kA_len {l : List Kp} {m : List Im} {c : List Int} {t : Int} (k : Nat) : (kA l m c t k).length ≤ k := by
  induction k with
  | zero => simp [kA]
  | succ k ih => unfold kA; split <;> (try simp) <;> omega
theorem kB_len {l : List Kp} {m : List Im} {c : List Int} {t : Int} (k : Nat) : (kB l m c t k).length ≤ k := by
  induction k with
  | zero => simp [kB]
  | succ k ih => unfold kB; split <;> (try simp) <;> omega
theorem kA_yes {l : List Kp} {m : List Im} {c : List Int} {t : Int} {k : Nat} (h : kp l m c t k = true) : kA l m c t k ++ [ix m k] = kA l m c t (k + 1) := by
  show _ = if kp l m c t k = true then _ else _
  rw [if_pos h]
theorem kA_no {l : List Kp} {m : List Im} {c : List Int} {t : Int} {k : Nat} (h : kp l m c t k = false) : kA l m c t k = kA l m c t (k + 1) := by
  show _ = if kp l m c t k = true then _ else _
  rw [if_neg (by simp [h])]
theorem kB_yes {l : List Kp} {m : List Im} {c : List Int} {t : Int} {k : Nat} (h : kp l m c t k = true) : kB l m c t k = kB l m c t (k + 1) := by
  show _ = if kp l m c t k = true then _ else _
  rw [if_pos h]
theorem kB_no {l : List Kp} {m : List Im} {c : List Int} {t : Int} {k : Nat} (h : kp l m c t k = false) : kB l m c t k ++ [(ix m k).id] = kB l m c t (k + 1) := by
  show _ = if kp l m c t k = true then _ else _
  rw [if_neg (by simp [h])]

set_option maxHeartbeats 4000000 in
set_option maxRecDepth 100000 in
theorem ret_purge (l : List Kp) (m : List Im) (c : List Int) (t : Int) (hm : m.length ≤ 1000) (hb : ∀ q, q < m.length → (ix m q).hold.length ≤ 1000) : Ctr Try.prog 7 [.sl 3 (List.map eKp l), .sl 5 (List.map eIm m), .sl 1 (List.map (rI .i64) c), .fl (.int .i64 t)] (.tu [.sl 5 (List.map eIm (purge l m c t).1.1), .sl 1 (List.map rS (purge l m c t).1.2), .fl (.int .i64 (purge l m c t).2)]) := by
  refine ctr (n := 85) (rs := #[.tmp 8, .tmp 9, .tmp 10]) (L := [(0, .d (.sl 3 (List.map eKp l))), (1, .d (.sl 5 (List.map eIm m))), (2, .d (.sl 1 (List.map (rI .i64) c))), (3, .d (.fl (.int .i64 t)))]) Try.func7 rfl rfl rfl rfl rfl (fun w0 U0 => ?_)
  refine a_rseq ?_
  refine rg_put (d := 8) (v := .d (.fl (.slice none 0 0))) rfl (og rfl (op_assign rfl rfl rfl)) ?_
  refine rg_put (d := 9) (v := .d (.fl (.slice none 0 0))) rfl (og rfl (op_assign rfl rfl rfl)) ?_
  refine rg_put (d := 10) (v := .d (.fl (.int .i64 0))) rfl (og rfl (op_assign rfl rfl rfl)) ?_
  refine rg_done rfl ?_
  refine a_rseq ?_
  refine rg_put (d := 20) (v := .d (.sl 3 (List.map eKp l))) rfl (og rfl (op_move rfl rfl rfl)) ?_
  rcases fot (((ck l) != 0)) with h1 | h1
  · skip
    have h2 := f_bne h1
    refine rg_put (d := 21) (v := .tu [.mp (ents l), .fl (.int .i64 (ck l))]) rfl (og rfl (op_call rfl Try.func15 nm15 rfl (.cons rfl (.d _) .nil) (read_ok l (f_bne h1)) rfl)) ?_
    refine rg_put (d := 19) (v := .tu [.mp (ents l), .fl (.int .i64 (ck l))]) rfl (og rfl (op_move rfl rfl rfl)) ?_
    refine rg_put (d := 22) (v := .d (.mp (ents l))) rfl (og rfl (op_extract rfl rfl rfl rfl)) ?_
    refine rg_put (d := 23) (v := .d (.fl (.int .i64 (ck l)))) rfl (og rfl (op_extract rfl rfl rfl rfl)) ?_
    refine rg_put (d := 11) (v := .d (.mp (ents l))) rfl (og rfl (op_assign rfl rfl rfl)) ?_
    refine rg_put (d := 12) (v := .d (.fl (.int .i64 (ck l)))) rfl (og rfl (op_assign rfl rfl rfl)) ?_
    refine rg_done rfl ?_
    refine a_seq ?_
    refine a_rseq ?_
    refine rg_put (d := 24) (v := .d (.fl (.int .i64 (ck l)))) rfl (og rfl (op_move rfl rfl rfl)) ?_
    refine rg_put (d := 25) (v := .d (.fl (.bool (((ck l) != 0))))) rfl (og rfl (op_bin rfl rfl rfl (b_neq _ _ _ _) rfl)) ?_
    refine rg_done rfl ?_
    refine a_condF rfl h1 ?_
    refine a_skip ?_
    show A _ _ _ _ _ _ _
    refine a_seq ?_
    refine a_rseq ?_
    refine rg_put (d := 27) (v := .d (.sl 1 (List.map (rI .i64) c))) rfl (og rfl (op_move rfl rfl rfl)) ?_
    refine rg_put (d := 28) (v := .d (.fl (.int .i64 (c.length : Int)))) rfl (og rfl (s_len rfl Try.underlying24 rfl rfl)) ?_
    refine rg_put (d := 29) (v := .d (.sl 5 (List.map eIm m))) rfl (og rfl (op_move rfl rfl rfl)) ?_
    refine rg_put (d := 30) (v := .d (.fl (.int .i64 (m.length : Int)))) rfl (og rfl (s_len rfl Try.underlying23 rfl rfl)) ?_
    refine rg_put (d := 31) (v := .d (.fl (.bool (((c.length : Int) != (m.length : Int)))))) rfl (og rfl (op_bin rfl rfl rfl (b_neq _ _ _ _) rfl)) ?_
    refine rg_done rfl ?_
    refine a_cond rfl (fun h3 => ?_) (fun h3 => ?_)
    · skip
      have h4 := t_bne h3
      refine a_rseq ?_
      refine rg_put (d := 8) (v := .d (.fl (.slice none 0 0))) rfl (og rfl (op_assign rfl rfl rfl)) ?_
      refine rg_put (d := 9) (v := .d (.fl (.slice none 0 0))) rfl (og rfl (op_assign rfl rfl rfl)) ?_
      refine rg_put (d := 10) (v := .d (.fl (.int .i64 1))) rfl (og rfl (op_assign rfl rfl rfl)) ?_
      refine rg_done rfl ?_
      refine a_ret ?_
      show ∃ ds, ResL _ _ _ ds ∧ RV.of ds = _
      refine ⟨[.sl 5 (List.map eIm []), .sl 1 (List.map rS []), .fl (.int .i64 1)], (.cons (.tmp rfl (.cv (Cv.nil _))) (.cons (.tmp rfl (.cv (Cv.nil _))) (.cons (.tmp rfl (.d _)) .nil))), ?_⟩
      have hu : purge l m c t = (([], []), 1) := by
        unfold purge; simp only [h1, h3]; rfl
      rw [hu]; rfl
    · skip
      have h5 := f_bne h3
      refine a_skip ?_
      show A _ _ _ _ _ _ _
      refine a_seq ?_
      refine a_rseq ?_
      refine rg_put (d := 32) (v := .d (.fl (.int .i64 t))) rfl (og rfl (op_move rfl rfl rfl)) ?_
      refine rg_put (d := 33) (v := .d (.fl (.bool (isT t)))) rfl (og rfl (op_call rfl Try.func16 nm16 rfl (.cons rfl (.d _) .nil) (isTime28 t) rfl)) ?_
      refine rg_put (d := 34) (v := .d (.fl (.bool ((!(isT t)))))) rfl (og rfl (op_un rfl rfl (u_not _) rfl)) ?_
      refine rg_done rfl ?_
      refine a_cond rfl (fun h6 => ?_) (fun h6 => ?_)
      · skip
        have h7 := t_not h6
        refine a_rseq ?_
        refine rg_put (d := 8) (v := .d (.fl (.slice none 0 0))) rfl (og rfl (op_assign rfl rfl rfl)) ?_
        refine rg_put (d := 9) (v := .d (.fl (.slice none 0 0))) rfl (og rfl (op_assign rfl rfl rfl)) ?_
        refine rg_put (d := 10) (v := .d (.fl (.int .i64 12))) rfl (og rfl (op_assign rfl rfl rfl)) ?_
        refine rg_done rfl ?_
        refine a_ret ?_
        show ∃ ds, ResL _ _ _ ds ∧ RV.of ds = _
        refine ⟨[.sl 5 (List.map eIm []), .sl 1 (List.map rS []), .fl (.int .i64 12)], (.cons (.tmp rfl (.cv (Cv.nil _))) (.cons (.tmp rfl (.cv (Cv.nil _))) (.cons (.tmp rfl (.d _)) .nil))), ?_⟩
        have hu : purge l m c t = (([], []), 12) := by
          unfold purge; simp only [h1, h3, h6]; rfl
        rw [hu]; rfl
      · skip
        have h8 := f_not h6
        refine a_skip ?_
        show A _ _ _ _ _ _ _
        refine a_rseq ?_
        refine rg_put (d := 13) (v := .d (.fl (.slice none 0 0))) rfl (og rfl (op_assign rfl rfl rfl)) ?_
        refine rg_done rfl ?_
        refine a_rseq ?_
        refine rg_put (d := 14) (v := .d (.fl (.slice none 0 0))) rfl (og rfl (op_assign rfl rfl rfl)) ?_
        refine rg_done rfl ?_
        refine a_seq ?_
        refine a_rseq ?_
        refine rg_put (d := 35) (v := .d (.sl 5 (List.map eIm m))) rfl (og rfl (op_move rfl rfl rfl)) ?_
        refine rg_put (d := 36) (v := .d (.fl (.int .i64 (m.length : Int)))) rfl (og rfl (s_len rfl Try.underlying23 rfl rfl)) ?_
        refine rg_put (d := 37) (v := .d (.fl (.int .i64 0))) rfl (og rfl (op_move rfl rfl rfl)) ?_
        refine rg_done rfl ?_
        refine a_block ?_
        refine a_loop (ι := Nat) (fun k => SS [(0, .d (.sl 3 (List.map eKp l))), (1, .d (.sl 5 (List.map eIm m))), (2, .d (.sl 1 (List.map (rI .i64) c))), (3, .d (.fl (.int .i64 t))), (11, .d (.mp (ents l))), (12, .d (.fl (.int .i64 (ck l)))), (25, .d (.fl (.bool (((ck l) != 0))))), (31, .d (.fl (.bool (((c.length : Int) != (m.length : Int)))))), (34, .d (.fl (.bool ((!(isT t)))))), (35, .d (.sl 5 (List.map eIm m))), (36, .d (.fl (.int .i64 (m.length : Int)))), (37, .d (.fl (.int .i64 (k : Int)))), (13, .ow 201), (14, .ow 202)] [(201, .ow 40 5 (List.map eIm (kA l m c t k))), (202, .ow 9 1 (List.map rS (kB l m c t k)))]) (fun k => k ≤ m.length ∧ fe (er l m c t) 0 m.length = fe (er l m c t) k (m.length - k)) (fun k => m.length - k) 0 (⟨by omega, by rw [Nat.sub_zero]⟩) (Imp.trans (imp_nil 13 201 40 5 rfl rfl) (Imp.trans (imp_nil 14 202 9 1 rfl rfl) (imp_forget rfl ⟨rfl, rfl, rfl, rfl, rfl, rfl, rfl, rfl, rfl, rfl, rfl, (by first | rfl | exact ci (by omega) | exact ci (by simp) | exact cd (by simp) | simp), (by first | rfl | exact ci (by omega) | exact ci (by simp) | exact cd (by simp) | simp), (by first | rfl | exact ci (by omega) | exact ci (by simp) | exact cd (by simp) | simp), trivial⟩ ⟨(by first | rfl | simp), (by first | rfl | simp), trivial⟩))) (fun k hok => ?_)
        obtain ⟨hk, hc⟩ := hok
        have hka := kA_len (l := l) (m := m) (c := c) (t := t) k
        have hkb := kB_len (l := l) (m := m) (c := c) (t := t) k
        refine a_rseq ?_
        refine rg_put (d := 38) (v := .d (.fl (.bool ((decide ((k : Int) < (m.length : Int))))))) rfl (og rfl (op_bin rfl rfl rfl (b_lss _ _ _ _) rfl)) ?_
        refine rg_done rfl ?_
        refine a_seq ?_
        refine a_cond rfl (fun h9 => ?_) (fun h9 => ?_)
        · skip
          have h10 := t_dec h9
          refine a_skip ?_
          show A _ _ _ _ _ _ _
          refine a_seq ?_
          refine a_block ?_
          refine a_rseq ?_
          refine rg_put (d := 39) (v := .d (.fl (.int .i64 (k : Int)))) rfl (og rfl (op_move rfl rfl rfl)) ?_
          refine rg_put (d := 40) (v := .el ((eIm (ix m k)))) rfl (og rfl (s_index rfl Try.underlying23 ti40 rfl rfl (by omega) (row_at (by omega)) rfl)) ?_
          refine rg_put (d := 41) (v := .d (.ag (eIm (ix m k)))) rfl (og rfl (of_eff (s_load_els rfl Try.underlying40 rfl ti40 rfl rfl rfl) rfl)) ?_
          refine rg_nam (d := 16) (v := .pt 101 0) (m := 101) (nw := [(101, .bx 40 ([.fl (.string (⟨#[]⟩)), .fl (.int .i64 0), .fl (.int .i64 0), .fl (.slice none 0 0), .fl (.int .u64 0)]))]) rfl (og rfl (of_eff (s_alloc 101 rfl ti40 (by kernel_rfl) rfl) rfl)) rfl ?_
          refine rg_put (d := 15) (v := .d (.fl (.int .i64 (k : Int)))) rfl (og rfl (op_assign rfl rfl rfl)) ?_
          refine rg_sto (nw := [(101, .bx 40 ((eIm (ix m k))))]) rfl (og rfl (of_eff (s_store rfl rfl ti40 rfl rfl rfl rfl rfl rfl) rfl)) ?_
          refine rg_done rfl ?_
          refine a_dseq (by kernel_rfl) ?_
          refine dr_put (d := 43) (v := .d (.mp (ents l))) rfl (og rfl (op_move rfl rfl rfl)) ?_
          refine dr_put (d := 44) (v := .d (.ag (eIm (ix m k)))) rfl (og rfl (of_eff (s_load_pts rfl Try.underlying40 rfl ti40 rfl rfl rfl rfl) rfl)) ?_
          refine dr_put (d := 45) (v := .d (.sl 1 (List.map (rI .i64) c))) rfl (og rfl (op_move rfl rfl rfl)) ?_
          refine dr_put (d := 46) (v := .d (.fl (.int .i64 (k : Int)))) rfl (og rfl (op_move rfl rfl rfl)) ?_
          refine dr_put (d := 47) (v := .el ((rI .i64 (ix c k)))) rfl (og rfl (s_index rfl Try.underlying24 ti3 rfl rfl (by omega) (row_at (by omega)) rfl)) ?_
          refine dr_put (d := 48) (v := .d (.fl (.int .i64 (ix c k)))) rfl (og rfl (op_load_el rfl Try.underlying3 rfl rfl rfl rfl)) ?_
          refine dr_put (d := 49) (v := .tu [.fl (.int .i64 ((unt l (ix m k) (ix c k)).1)), .fl (.int .i64 ((unt l (ix m k) (ix c k)).2))]) rfl (og rfl (op_call rfl Try.func17 nm17 rfl (.cons rfl (.d _) (.cons rfl (.d _) (.cons rfl (.d _) .nil))) (until_map l (ix m k) (ix c k) (f_bne h1)) rfl)) ?_
          refine dr_put (d := 42) (v := .tu [.fl (.int .i64 ((unt l (ix m k) (ix c k)).1)), .fl (.int .i64 ((unt l (ix m k) (ix c k)).2))]) rfl (og rfl (op_move rfl rfl rfl)) ?_
          refine dr_put (d := 50) (v := .d (.fl (.int .i64 ((unt l (ix m k) (ix c k)).1)))) rfl (og rfl (op_extract rfl rfl rfl rfl)) ?_
          refine dr_put (d := 51) (v := .d (.fl (.int .i64 ((unt l (ix m k) (ix c k)).2)))) rfl (og rfl (op_extract rfl rfl rfl rfl)) ?_
          refine dr_put (d := 17) (v := .d (.fl (.int .i64 ((unt l (ix m k) (ix c k)).1)))) rfl (og rfl (op_assign rfl rfl rfl)) ?_
          refine dr_put (d := 18) (v := .d (.fl (.int .i64 ((unt l (ix m k) (ix c k)).2)))) rfl (og rfl (op_assign rfl rfl rfl)) ?_
          refine dr_done rfl (by kernel_rfl) (by kernel_rfl) ?_
          refine a_block ?_
          refine a_rseq ?_
          refine rg_put (d := 58) (v := .d (.fl (.int .i64 ((unt l (ix m k) (ix c k)).2)))) rfl (og rfl (op_move rfl rfl rfl)) ?_
          refine rg_put (d := 59) (v := .d (.fl (.bool (((unt l (ix m k) (ix c k)).2 == 32))))) rfl (og rfl (op_bin rfl rfl rfl (b_eql _ _ _ _) rfl)) ?_
          refine rg_put (d := 60) (v := .d (.fl (.bool (((unt l (ix m k) (ix c k)).2 == 32))))) rfl (og rfl (op_move rfl rfl rfl)) ?_
          rcases fot (((unt l (ix m k) (ix c k)).2 == 32)) with h11 | h11
          · skip
            have h12 := f_beq h11
            refine rg_put (d := 61) (v := .d (.fl (.int .i64 ((unt l (ix m k) (ix c k)).2)))) rfl (oy rfl rfl rfl h11 (op_move rfl rfl rfl)) ?_
            refine rg_put (d := 62) (v := .d (.fl (.bool (((unt l (ix m k) (ix c k)).2 == 11))))) rfl (oy rfl rfl rfl h11 (op_bin rfl rfl rfl (b_eql _ _ _ _) rfl)) ?_
            refine rg_put (d := 63) (v := .d (.fl (.bool (((unt l (ix m k) (ix c k)).2 == 11))))) rfl (og rfl (op_pick rfl rfl (by rw [h11]; rfl) rfl)) ?_
            refine rg_put (d := 64) (v := .d (.fl (.bool (((unt l (ix m k) (ix c k)).2 == 11))))) rfl (og rfl (op_move rfl rfl rfl)) ?_
            rcases fot (((unt l (ix m k) (ix c k)).2 == 11)) with h13 | h13
            · skip
              have h14 := f_beq h13
              refine rg_put (d := 65) (v := .d (.fl (.int .i64 ((unt l (ix m k) (ix c k)).2)))) rfl (oy rfl rfl rfl h13 (op_move rfl rfl rfl)) ?_
              refine rg_put (d := 66) (v := .d (.fl (.bool (((unt l (ix m k) (ix c k)).2 == 0))))) rfl (oy rfl rfl rfl h13 (op_bin rfl rfl rfl (b_eql _ _ _ _) rfl)) ?_
              refine rg_put (d := 67) (v := .d (.fl (.bool (((unt l (ix m k) (ix c k)).2 == 0))))) rfl (oy rfl rfl rfl h13 (op_move rfl rfl rfl)) ?_
              rcases fot (((unt l (ix m k) (ix c k)).2 == 0)) with h15 | h15
              · skip
                have h16 := f_beq h15
                refine rg_put (d := 68) (v := .d (.fl undef)) rfl (on rfl rfl rfl h15) ?_
                refine rg_put (d := 69) (v := .d (.fl undef)) rfl (on rfl rfl rfl h15) ?_
                refine rg_put (d := 70) (v := .d (.fl undef)) rfl (on rfl rfl rfl h15) ?_
                refine rg_put (d := 71) (v := .d (.fl (.bool false))) rfl (oy rfl rfl rfl h13 (op_pick rfl rfl (by rw [h15]; rfl) rfl)) ?_
                refine rg_put (d := 72) (v := .d (.fl (.bool false))) rfl (og rfl (op_pick rfl rfl (by rw [h13]; rfl) rfl)) ?_
                refine rg_put (d := 57) (v := .d (.fl (.bool false))) rfl (og rfl (op_assign rfl rfl rfl)) ?_
                refine rg_done rfl ?_
                refine a_condF rfl rfl ?_
                refine a_rseq ?_
                refine rg_put (d := 79) (v := .d (.fl (.int .i64 ((unt l (ix m k) (ix c k)).2)))) rfl (og rfl (op_move rfl rfl rfl)) ?_
                refine rg_put (d := 80) (v := .d (.fl (.bool (((unt l (ix m k) (ix c k)).2 != 0))))) rfl (og rfl (op_bin rfl rfl rfl (b_neq _ _ _ _) rfl)) ?_
                refine rg_put (d := 78) (v := .d (.fl (.bool (((unt l (ix m k) (ix c k)).2 != 0))))) rfl (og rfl (op_assign rfl rfl rfl)) ?_
                refine rg_done rfl ?_
                refine a_cond rfl (fun h17 => ?_) (fun h17 => ?_)
                · skip
                  have h18 := t_bne h17
                  refine a_rseq ?_
                  refine rg_put (d := 81) (v := .d (.fl (.int .i64 ((unt l (ix m k) (ix c k)).2)))) rfl (og rfl (op_move rfl rfl rfl)) ?_
                  refine rg_put (d := 8) (v := .d (.fl (.slice none 0 0))) rfl (og rfl (op_assign rfl rfl rfl)) ?_
                  refine rg_put (d := 9) (v := .d (.fl (.slice none 0 0))) rfl (og rfl (op_assign rfl rfl rfl)) ?_
                  refine rg_put (d := 10) (v := .d (.fl (.int .i64 ((unt l (ix m k) (ix c k)).2)))) rfl (og rfl (op_assign rfl rfl rfl)) ?_
                  refine rg_done rfl ?_
                  refine a_ret ?_
                  show ∃ ds, ResL _ _ _ ds ∧ RV.of ds = _
                  refine ⟨[.sl 5 (List.map eIm []), .sl 1 (List.map rS []), .fl (.int .i64 ((unt l (ix m k) (ix c k)).2))], (.cons (.tmp rfl (.cv (Cv.nil _))) (.cons (.tmp rfl (.cv (Cv.nil _))) (.cons (.tmp rfl (.d _)) .nil))), ?_⟩
                  have hkp : kp l m c t k = false := by
                    unfold kp; simp only [h1, h3, h6, h8, h9, h11, h13, h15, h17, (bq_t h17)]; rfl
                  have hz := t_bne h17
                  have he : er l m c t k = (unt l (ix m k) (ix c k)).2 := by unfold er; rw [hkp]; rfl
                  have hf := fe_yes (by omega) hc he hz
                  have hu : purge l m c t = (([], []), (unt l (ix m k) (ix c k)).2) := by
                    unfold purge; simp only [h1, h3, h6]; rw [hf]; exact if_neg hz
                  rw [hu]; rfl
                · skip
                  have h19 := f_bne h17
                  refine a_region ?_
                  refine rg_put (d := 52) (v := .ow 202) rfl (og rfl (op_move rfl rfl rfl)) ?_
                  refine rg_put (d := 53) (v := .pt 101 0) rfl (og rfl (of_eff (s_field_pt rfl Try.underlying40 rfl ti9 rfl rfl rfl) rfl)) ?_
                  refine rg_put (d := 54) (v := .d (.fl (.string ((ix m k).id)))) rfl (og rfl (op_load_pt rfl Try.underlying9 rfl rfl rfl rfl rfl)) ?_
                  refine rg_put (d := 55) (v := .d (.sl 1 (List.map rS [(ix m k).id]))) rfl (og rfl (of_eff (op_slices rfl Try.underlying33 ti9 rfl rfl rfl (by kernel_rfl) (xs := [.fl (.string ((ix m k).id))]) rfl rfl (.cons rfl rfl (.d _) rfl rfl rfl .nil) rfl) rfl)) ?_
                  refine rg_nam (d := 56) (v := .ow 102) (m := 102) (nw := [(102, .ow 9 1 (List.map rS (((kB l m c t k) ++ [(ix m k).id])))), (202, .no)]) rfl (og rfl (s_append 102 rfl Try.underlying33 ti9 rfl rfl rfl rfl rfl (.d _) (by simp only [List.length_cons, List.length_nil]; omega) rfl)) rfl ?_
                  refine rg_put (d := 14) (v := .ow 102) rfl (og rfl (op_assign rfl rfl rfl)) ?_
                  refine rg_done rfl ?_
                  show A _ _ _ _ _ _ _
                  refine a_region ?_
                  refine rg_put (d := 82) (v := .d (.fl (.int .i64 (((k : Int) + 1))))) rfl (og rfl (op_bin rfl rfl rfl (fun x y w => b_add64 _ _ _ x y w (by omega)) rfl)) ?_
                  refine rg_put (d := 37) (v := .d (.fl (.int .i64 (((k : Int) + 1))))) rfl (og rfl (op_move rfl rfl rfl)) ?_
                  refine rg_done rfl ?_
                  have hkp : kp l m c t k = false := by
                    unfold kp; simp only [h1, h3, h6, h8, h9, h11, h13, h15, h17, (bq_f h17)]; rfl
                  have he : er l m c t k = 0 := by
                    unfold er; rw [hkp]; exact f_bne h17
                  show ∃ i, _ ∧ _ ∧ Imp _ _ _ _ _
                  refine ⟨k + 1, ⟨by omega, fe_no (by omega) hc he⟩, by omega, imp_ren (fun m => bif Nat.beq m 202 then 102 else m) rfl ⟨rfl, rfl, rfl, rfl, rfl, rfl, rfl, rfl, rfl, rfl, rfl, (by first | rfl | exact ci (by omega) | exact ci (by simp) | exact cd (by simp) | simp), rfl, rfl, trivial⟩ ⟨(congrArg (fun x => Ob.ow 40 5 (List.map eIm x)) (kA_no hkp)), (congrArg (fun x => Ob.ow 9 1 (List.map rS x)) (kB_no hkp)), trivial⟩⟩
              · skip
                have h20 := t_beq h15
                refine rg_put (d := 68) (v := .d (.fl (.int .i64 ((unt l (ix m k) (ix c k)).1)))) rfl (oy rfl rfl rfl h15 (op_move rfl rfl rfl)) ?_
                refine rg_put (d := 69) (v := .d (.fl (.int .i64 t))) rfl (oy rfl rfl rfl h15 (op_move rfl rfl rfl)) ?_
                refine rg_put (d := 70) (v := .d (.fl (.bool ((decide (t < (unt l (ix m k) (ix c k)).1)))))) rfl (oy rfl rfl rfl h15 (op_bin rfl rfl rfl (b_gtr _ _ _ _) rfl)) ?_
                refine rg_put (d := 71) (v := .d (.fl (.bool ((decide (t < (unt l (ix m k) (ix c k)).1)))))) rfl (oy rfl rfl rfl h13 (op_pick rfl rfl (by rw [h15]; rfl) rfl)) ?_
                refine rg_put (d := 72) (v := .d (.fl (.bool ((decide (t < (unt l (ix m k) (ix c k)).1)))))) rfl (og rfl (op_pick rfl rfl (by rw [h13]; rfl) rfl)) ?_
                refine rg_put (d := 57) (v := .d (.fl (.bool ((decide (t < (unt l (ix m k) (ix c k)).1)))))) rfl (og rfl (op_assign rfl rfl rfl)) ?_
                refine rg_done rfl ?_
                refine a_cond rfl (fun h21 => ?_) (fun h21 => ?_)
                · skip
                  have h22 := t_dec h21
                  refine a_region ?_
                  refine rg_put (d := 73) (v := .ow 201) rfl (og rfl (op_move rfl rfl rfl)) ?_
                  refine rg_put (d := 74) (v := .d (.ag (eIm (ix m k)))) rfl (og rfl (of_eff (s_load_pts rfl Try.underlying40 rfl ti40 rfl rfl rfl rfl) rfl)) ?_
                  refine rg_put (d := 75) (v := .d (.ag (eIm (ix m k)))) rfl (og rfl (op_call rfl Try.func18 nm18 rfl (.cons rfl (.d _) .nil) (image_copy (ix m k) (by have := hb k (by omega); omega)) rfl)) ?_
                  refine rg_put (d := 76) (v := .d (.sl 5 (List.map eIm [(ix m k)]))) rfl (og rfl (of_eff (op_slices rfl Try.underlying23 ti40 rfl rfl rfl (by kernel_rfl) (xs := [.ag (eIm (ix m k))]) rfl rfl (.cons rfl rfl (.d _) rfl rfl rfl .nil) rfl) rfl)) ?_
                  refine rg_nam (d := 77) (v := .ow 103) (m := 103) (nw := [(103, .ow 40 5 (List.map eIm (((kA l m c t k) ++ [(ix m k)])))), (201, .no)]) rfl (og rfl (s_append 103 rfl Try.underlying23 ti40 rfl rfl rfl rfl rfl (.d _) (by simp only [List.length_cons, List.length_nil]; omega) rfl)) rfl ?_
                  refine rg_put (d := 13) (v := .ow 103) rfl (og rfl (op_assign rfl rfl rfl)) ?_
                  refine rg_done rfl ?_
                  show A _ _ _ _ _ _ _
                  refine a_region ?_
                  refine rg_put (d := 82) (v := .d (.fl (.int .i64 (((k : Int) + 1))))) rfl (og rfl (op_bin rfl rfl rfl (fun x y w => b_add64 _ _ _ x y w (by omega)) rfl)) ?_
                  refine rg_put (d := 37) (v := .d (.fl (.int .i64 (((k : Int) + 1))))) rfl (og rfl (op_move rfl rfl rfl)) ?_
                  refine rg_done rfl ?_
                  have hkp : kp l m c t k = true := by
                    unfold kp; simp only [h1, h3, h6, h8, h9, h11, h13, h15, h21]; rfl
                  have he : er l m c t k = 0 := by
                    unfold er; rw [hkp]; rfl
                  show ∃ i, _ ∧ _ ∧ Imp _ _ _ _ _
                  refine ⟨k + 1, ⟨by omega, fe_no (by omega) hc he⟩, by omega, imp_ren (fun m => bif Nat.beq m 201 then 103 else m) rfl ⟨rfl, rfl, rfl, rfl, rfl, rfl, rfl, rfl, rfl, rfl, rfl, (by first | rfl | exact ci (by omega) | exact ci (by simp) | exact cd (by simp) | simp), rfl, rfl, trivial⟩ ⟨(congrArg (fun x => Ob.ow 40 5 (List.map eIm x)) (kA_yes hkp)), (congrArg (fun x => Ob.ow 9 1 (List.map rS x)) (kB_yes hkp)), trivial⟩⟩
                · skip
                  have h23 := f_dec h21
                  refine a_rseq ?_
                  refine rg_put (d := 79) (v := .d (.fl (.int .i64 ((unt l (ix m k) (ix c k)).2)))) rfl (og rfl (op_move rfl rfl rfl)) ?_
                  refine rg_put (d := 80) (v := .d (.fl (.bool (((unt l (ix m k) (ix c k)).2 != 0))))) rfl (og rfl (op_bin rfl rfl rfl (b_neq _ _ _ _) rfl)) ?_
                  refine rg_put (d := 78) (v := .d (.fl (.bool (((unt l (ix m k) (ix c k)).2 != 0))))) rfl (og rfl (op_assign rfl rfl rfl)) ?_
                  refine rg_done rfl ?_
                  refine a_cond rfl (fun h24 => ?_) (fun h24 => ?_)
                  · skip
                    have h25 := t_bne h24
                    refine a_rseq ?_
                    refine rg_put (d := 81) (v := .d (.fl (.int .i64 ((unt l (ix m k) (ix c k)).2)))) rfl (og rfl (op_move rfl rfl rfl)) ?_
                    refine rg_put (d := 8) (v := .d (.fl (.slice none 0 0))) rfl (og rfl (op_assign rfl rfl rfl)) ?_
                    refine rg_put (d := 9) (v := .d (.fl (.slice none 0 0))) rfl (og rfl (op_assign rfl rfl rfl)) ?_
                    refine rg_put (d := 10) (v := .d (.fl (.int .i64 ((unt l (ix m k) (ix c k)).2)))) rfl (og rfl (op_assign rfl rfl rfl)) ?_
                    refine rg_done rfl ?_
                    refine a_ret ?_
                    show ∃ ds, ResL _ _ _ ds ∧ RV.of ds = _
                    refine ⟨[.sl 5 (List.map eIm []), .sl 1 (List.map rS []), .fl (.int .i64 ((unt l (ix m k) (ix c k)).2))], (.cons (.tmp rfl (.cv (Cv.nil _))) (.cons (.tmp rfl (.cv (Cv.nil _))) (.cons (.tmp rfl (.d _)) .nil))), ?_⟩
                    have hkp : kp l m c t k = false := by
                      unfold kp; simp only [h1, h3, h6, h8, h9, h11, h13, h15, h21, h24, (bq_t h24)]; rfl
                    have hz := t_bne h24
                    have he : er l m c t k = (unt l (ix m k) (ix c k)).2 := by unfold er; rw [hkp]; rfl
                    have hf := fe_yes (by omega) hc he hz
                    have hu : purge l m c t = (([], []), (unt l (ix m k) (ix c k)).2) := by
                      unfold purge; simp only [h1, h3, h6]; rw [hf]; exact if_neg hz
                    rw [hu]; rfl
                  · skip
                    have h26 := f_bne h24
                    refine a_region ?_
                    refine rg_put (d := 52) (v := .ow 202) rfl (og rfl (op_move rfl rfl rfl)) ?_
                    refine rg_put (d := 53) (v := .pt 101 0) rfl (og rfl (of_eff (s_field_pt rfl Try.underlying40 rfl ti9 rfl rfl rfl) rfl)) ?_
                    refine rg_put (d := 54) (v := .d (.fl (.string ((ix m k).id)))) rfl (og rfl (op_load_pt rfl Try.underlying9 rfl rfl rfl rfl rfl)) ?_
                    refine rg_put (d := 55) (v := .d (.sl 1 (List.map rS [(ix m k).id]))) rfl (og rfl (of_eff (op_slices rfl Try.underlying33 ti9 rfl rfl rfl (by kernel_rfl) (xs := [.fl (.string ((ix m k).id))]) rfl rfl (.cons rfl rfl (.d _) rfl rfl rfl .nil) rfl) rfl)) ?_
                    refine rg_nam (d := 56) (v := .ow 104) (m := 104) (nw := [(104, .ow 9 1 (List.map rS (((kB l m c t k) ++ [(ix m k).id])))), (202, .no)]) rfl (og rfl (s_append 104 rfl Try.underlying33 ti9 rfl rfl rfl rfl rfl (.d _) (by simp only [List.length_cons, List.length_nil]; omega) rfl)) rfl ?_
                    refine rg_put (d := 14) (v := .ow 104) rfl (og rfl (op_assign rfl rfl rfl)) ?_
                    refine rg_done rfl ?_
                    show A _ _ _ _ _ _ _
                    refine a_region ?_
                    refine rg_put (d := 82) (v := .d (.fl (.int .i64 (((k : Int) + 1))))) rfl (og rfl (op_bin rfl rfl rfl (fun x y w => b_add64 _ _ _ x y w (by omega)) rfl)) ?_
                    refine rg_put (d := 37) (v := .d (.fl (.int .i64 (((k : Int) + 1))))) rfl (og rfl (op_move rfl rfl rfl)) ?_
                    refine rg_done rfl ?_
                    have hkp : kp l m c t k = false := by
                      unfold kp; simp only [h1, h3, h6, h8, h9, h11, h13, h15, h21, h24, (bq_f h24)]; rfl
                    have he : er l m c t k = 0 := by
                      unfold er; rw [hkp]; exact f_bne h24
                    show ∃ i, _ ∧ _ ∧ Imp _ _ _ _ _
                    refine ⟨k + 1, ⟨by omega, fe_no (by omega) hc he⟩, by omega, imp_ren (fun m => bif Nat.beq m 202 then 104 else m) rfl ⟨rfl, rfl, rfl, rfl, rfl, rfl, rfl, rfl, rfl, rfl, rfl, (by first | rfl | exact ci (by omega) | exact ci (by simp) | exact cd (by simp) | simp), rfl, rfl, trivial⟩ ⟨(congrArg (fun x => Ob.ow 40 5 (List.map eIm x)) (kA_no hkp)), (congrArg (fun x => Ob.ow 9 1 (List.map rS x)) (kB_no hkp)), trivial⟩⟩
            · skip
              have h27 := t_beq h13
              refine rg_put (d := 65) (v := .d (.fl undef)) rfl (on rfl rfl rfl h13) ?_
              refine rg_put (d := 66) (v := .d (.fl undef)) rfl (on rfl rfl rfl h13) ?_
              refine rg_put (d := 67) (v := .d (.fl undef)) rfl (on rfl rfl rfl h13) ?_
              refine rg_put (d := 68) (v := .d (.fl undef)) rfl (ou rfl rfl rfl) ?_
              refine rg_put (d := 69) (v := .d (.fl undef)) rfl (ou rfl rfl rfl) ?_
              refine rg_put (d := 70) (v := .d (.fl undef)) rfl (ou rfl rfl rfl) ?_
              refine rg_put (d := 71) (v := .d (.fl undef)) rfl (on rfl rfl rfl h13) ?_
              refine rg_put (d := 72) (v := .d (.fl (.bool true))) rfl (og rfl (op_pick rfl rfl (by rw [h13]; rfl) rfl)) ?_
              refine rg_put (d := 57) (v := .d (.fl (.bool true))) rfl (og rfl (op_assign rfl rfl rfl)) ?_
              refine rg_done rfl ?_
              refine a_condK rfl rfl ?_
              refine a_region ?_
              refine rg_put (d := 73) (v := .ow 201) rfl (og rfl (op_move rfl rfl rfl)) ?_
              refine rg_put (d := 74) (v := .d (.ag (eIm (ix m k)))) rfl (og rfl (of_eff (s_load_pts rfl Try.underlying40 rfl ti40 rfl rfl rfl rfl) rfl)) ?_
              refine rg_put (d := 75) (v := .d (.ag (eIm (ix m k)))) rfl (og rfl (op_call rfl Try.func18 nm18 rfl (.cons rfl (.d _) .nil) (image_copy (ix m k) (by have := hb k (by omega); omega)) rfl)) ?_
              refine rg_put (d := 76) (v := .d (.sl 5 (List.map eIm [(ix m k)]))) rfl (og rfl (of_eff (op_slices rfl Try.underlying23 ti40 rfl rfl rfl (by kernel_rfl) (xs := [.ag (eIm (ix m k))]) rfl rfl (.cons rfl rfl (.d _) rfl rfl rfl .nil) rfl) rfl)) ?_
              refine rg_nam (d := 77) (v := .ow 105) (m := 105) (nw := [(105, .ow 40 5 (List.map eIm (((kA l m c t k) ++ [(ix m k)])))), (201, .no)]) rfl (og rfl (s_append 105 rfl Try.underlying23 ti40 rfl rfl rfl rfl rfl (.d _) (by simp only [List.length_cons, List.length_nil]; omega) rfl)) rfl ?_
              refine rg_put (d := 13) (v := .ow 105) rfl (og rfl (op_assign rfl rfl rfl)) ?_
              refine rg_done rfl ?_
              show A _ _ _ _ _ _ _
              refine a_region ?_
              refine rg_put (d := 82) (v := .d (.fl (.int .i64 (((k : Int) + 1))))) rfl (og rfl (op_bin rfl rfl rfl (fun x y w => b_add64 _ _ _ x y w (by omega)) rfl)) ?_
              refine rg_put (d := 37) (v := .d (.fl (.int .i64 (((k : Int) + 1))))) rfl (og rfl (op_move rfl rfl rfl)) ?_
              refine rg_done rfl ?_
              have hkp : kp l m c t k = true := by
                unfold kp; simp only [h1, h3, h6, h8, h9, h11, h13]; rfl
              have he : er l m c t k = 0 := by
                unfold er; rw [hkp]; rfl
              show ∃ i, _ ∧ _ ∧ Imp _ _ _ _ _
              refine ⟨k + 1, ⟨by omega, fe_no (by omega) hc he⟩, by omega, imp_ren (fun m => bif Nat.beq m 201 then 105 else m) rfl ⟨rfl, rfl, rfl, rfl, rfl, rfl, rfl, rfl, rfl, rfl, rfl, (by first | rfl | exact ci (by omega) | exact ci (by simp) | exact cd (by simp) | simp), rfl, rfl, trivial⟩ ⟨(congrArg (fun x => Ob.ow 40 5 (List.map eIm x)) (kA_yes hkp)), (congrArg (fun x => Ob.ow 9 1 (List.map rS x)) (kB_yes hkp)), trivial⟩⟩
          · skip
            have h28 := t_beq h11
            refine rg_put (d := 61) (v := .d (.fl undef)) rfl (on rfl rfl rfl h11) ?_
            refine rg_put (d := 62) (v := .d (.fl undef)) rfl (on rfl rfl rfl h11) ?_
            refine rg_put (d := 63) (v := .d (.fl (.bool true))) rfl (og rfl (op_pick rfl rfl (by rw [h11]; rfl) rfl)) ?_
            refine rg_put (d := 64) (v := .d (.fl (.bool true))) rfl (og rfl (op_move rfl rfl rfl)) ?_
            refine rg_put (d := 65) (v := .d (.fl undef)) rfl (on rfl rfl rfl rfl) ?_
            refine rg_put (d := 66) (v := .d (.fl undef)) rfl (on rfl rfl rfl rfl) ?_
            refine rg_put (d := 67) (v := .d (.fl undef)) rfl (on rfl rfl rfl rfl) ?_
            refine rg_put (d := 68) (v := .d (.fl undef)) rfl (ou rfl rfl rfl) ?_
            refine rg_put (d := 69) (v := .d (.fl undef)) rfl (ou rfl rfl rfl) ?_
            refine rg_put (d := 70) (v := .d (.fl undef)) rfl (ou rfl rfl rfl) ?_
            refine rg_put (d := 71) (v := .d (.fl undef)) rfl (on rfl rfl rfl rfl) ?_
            refine rg_put (d := 72) (v := .d (.fl (.bool true))) rfl (og rfl (op_pick rfl rfl rfl rfl)) ?_
            refine rg_put (d := 57) (v := .d (.fl (.bool true))) rfl (og rfl (op_assign rfl rfl rfl)) ?_
            refine rg_done rfl ?_
            refine a_condK rfl rfl ?_
            refine a_region ?_
            refine rg_put (d := 73) (v := .ow 201) rfl (og rfl (op_move rfl rfl rfl)) ?_
            refine rg_put (d := 74) (v := .d (.ag (eIm (ix m k)))) rfl (og rfl (of_eff (s_load_pts rfl Try.underlying40 rfl ti40 rfl rfl rfl rfl) rfl)) ?_
            refine rg_put (d := 75) (v := .d (.ag (eIm (ix m k)))) rfl (og rfl (op_call rfl Try.func18 nm18 rfl (.cons rfl (.d _) .nil) (image_copy (ix m k) (by have := hb k (by omega); omega)) rfl)) ?_
            refine rg_put (d := 76) (v := .d (.sl 5 (List.map eIm [(ix m k)]))) rfl (og rfl (of_eff (op_slices rfl Try.underlying23 ti40 rfl rfl rfl (by kernel_rfl) (xs := [.ag (eIm (ix m k))]) rfl rfl (.cons rfl rfl (.d _) rfl rfl rfl .nil) rfl) rfl)) ?_
            refine rg_nam (d := 77) (v := .ow 106) (m := 106) (nw := [(106, .ow 40 5 (List.map eIm (((kA l m c t k) ++ [(ix m k)])))), (201, .no)]) rfl (og rfl (s_append 106 rfl Try.underlying23 ti40 rfl rfl rfl rfl rfl (.d _) (by simp only [List.length_cons, List.length_nil]; omega) rfl)) rfl ?_
            refine rg_put (d := 13) (v := .ow 106) rfl (og rfl (op_assign rfl rfl rfl)) ?_
            refine rg_done rfl ?_
            show A _ _ _ _ _ _ _
            refine a_region ?_
            refine rg_put (d := 82) (v := .d (.fl (.int .i64 (((k : Int) + 1))))) rfl (og rfl (op_bin rfl rfl rfl (fun x y w => b_add64 _ _ _ x y w (by omega)) rfl)) ?_
            refine rg_put (d := 37) (v := .d (.fl (.int .i64 (((k : Int) + 1))))) rfl (og rfl (op_move rfl rfl rfl)) ?_
            refine rg_done rfl ?_
            have hkp : kp l m c t k = true := by
              unfold kp; simp only [h1, h3, h6, h8, h9, h11]; rfl
            have he : er l m c t k = 0 := by
              unfold er; rw [hkp]; rfl
            show ∃ i, _ ∧ _ ∧ Imp _ _ _ _ _
            refine ⟨k + 1, ⟨by omega, fe_no (by omega) hc he⟩, by omega, imp_ren (fun m => bif Nat.beq m 201 then 106 else m) rfl ⟨rfl, rfl, rfl, rfl, rfl, rfl, rfl, rfl, rfl, rfl, rfl, (by first | rfl | exact ci (by omega) | exact ci (by simp) | exact cd (by simp) | simp), rfl, rfl, trivial⟩ ⟨(congrArg (fun x => Ob.ow 40 5 (List.map eIm x)) (kA_yes hkp)), (congrArg (fun x => Ob.ow 9 1 (List.map rS x)) (kB_yes hkp)), trivial⟩⟩
        · skip
          have h29 := f_dec h9
          refine a_exit ?_
          show A _ _ _ _ _ _ _
          refine a_rseq ?_
          refine rg_put (d := 83) (v := .ow 201) rfl (og rfl (op_move rfl rfl rfl)) ?_
          refine rg_put (d := 84) (v := .ow 202) rfl (og rfl (op_move rfl rfl rfl)) ?_
          refine rg_put (d := 8) (v := .ow 201) rfl (og rfl (op_assign rfl rfl rfl)) ?_
          refine rg_put (d := 9) (v := .ow 202) rfl (og rfl (op_assign rfl rfl rfl)) ?_
          refine rg_put (d := 10) (v := .d (.fl (.int .i64 0))) rfl (og rfl (op_assign rfl rfl rfl)) ?_
          refine rg_done rfl ?_
          refine a_ret ?_
          show ∃ ds, ResL _ _ _ ds ∧ RV.of ds = _
          refine ⟨[.sl 5 (List.map eIm (kA l m c t k)), .sl 1 (List.map rS (kB l m c t k)), .fl (.int .i64 0)], (.cons (.tmp rfl (.ow rfl)) (.cons (.tmp rfl (.ow rfl)) (.cons (.tmp rfl (.d _)) .nil))), ?_⟩
          have hkk : k = m.length := by omega
          subst hkk
          have hf := hc.trans (fe_end (by omega))
          have hu : purge l m c t = ((kA l m c t m.length, kB l m c t m.length), 0) := by
            unfold purge; simp only [h1, h3, h6]; exact if_pos hf
          rw [hu]; rfl
  · skip
    have h30 := t_bne h1
    refine rg_put (d := 21) (v := .tu [rd l, .fl (.int .i64 (ck l))]) rfl (og rfl (op_call rfl Try.func15 nm15 rfl (.cons rfl (.d _) .nil) (read_all l) rfl)) ?_
    refine rg_put (d := 19) (v := .tu [rd l, .fl (.int .i64 (ck l))]) rfl (og rfl (op_move rfl rfl rfl)) ?_
    refine rg_put (d := 22) (v := .d (rd l)) rfl (og rfl (op_extract rfl rfl rfl rfl)) ?_
    refine rg_put (d := 23) (v := .d (.fl (.int .i64 (ck l)))) rfl (og rfl (op_extract rfl rfl rfl rfl)) ?_
    refine rg_put (d := 11) (v := .d (rd l)) rfl (og rfl (op_assign rfl rfl rfl)) ?_
    refine rg_put (d := 12) (v := .d (.fl (.int .i64 (ck l)))) rfl (og rfl (op_assign rfl rfl rfl)) ?_
    refine rg_done rfl ?_
    refine a_seq ?_
    refine a_rseq ?_
    refine rg_put (d := 24) (v := .d (.fl (.int .i64 (ck l)))) rfl (og rfl (op_move rfl rfl rfl)) ?_
    refine rg_put (d := 25) (v := .d (.fl (.bool (((ck l) != 0))))) rfl (og rfl (op_bin rfl rfl rfl (b_neq _ _ _ _) rfl)) ?_
    refine rg_done rfl ?_
    refine a_condK rfl h1 ?_
    refine a_rseq ?_
    refine rg_put (d := 26) (v := .d (.fl (.int .i64 (ck l)))) rfl (og rfl (op_move rfl rfl rfl)) ?_
    refine rg_put (d := 8) (v := .d (.fl (.slice none 0 0))) rfl (og rfl (op_assign rfl rfl rfl)) ?_
    refine rg_put (d := 9) (v := .d (.fl (.slice none 0 0))) rfl (og rfl (op_assign rfl rfl rfl)) ?_
    refine rg_put (d := 10) (v := .d (.fl (.int .i64 (ck l)))) rfl (og rfl (op_assign rfl rfl rfl)) ?_
    refine rg_done rfl ?_
    refine a_ret ?_
    show ∃ ds, ResL _ _ _ ds ∧ RV.of ds = _
    refine ⟨[.sl 5 (List.map eIm []), .sl 1 (List.map rS []), .fl (.int .i64 (ck l))], (.cons (.tmp rfl (.cv (Cv.nil _))) (.cons (.tmp rfl (.cv (Cv.nil _))) (.cons (.tmp rfl (.d _)) .nil))), ?_⟩
    have hu : purge l m c t = (([], []), (ck l)) := by
      unfold purge; simp only [h1]; rfl
    rw [hu]; rfl
end Go.Proofs.Ytaecdkhpidligaa.Wr
