/- Files that are sent, both sides. Condition: partners that are not too great. -/
import Derived.Test.YthfdopaefdmdiaaC1
set_option linter.unusedSimpArgs false
set_option linter.unusedVariables false
namespace Go.Proofs.Ythfdopaefdmdiaa.Wk
open Go Go.RowKit Go.Proofs.Ythfdopaefdmdiaa.Av
def zF : Fil := ⟨⟨#[]⟩, ⟨#[]⟩, 0, []⟩
def f0 (p : Ptn) (fr : ByteArray) (l : List Rec) : Fil := ⟨fr, p.name, p.out, l⟩
def tooB (p : Ptn) (l : List Rec) : Bool := decide (1024 ≤ (p.wait.length : Int)) || decide (1024 < (p.ours.length : Int) + (l.length : Int))
noncomputable def sdP (p : Ptn) (fr : ByteArray) (l : List Rec) : Ptn := bif ckF (f0 p fr l) != 0 then p else bif tooB p l then p else ⟨p.name, p.out + 1, p.inn, p.wait ++ [f0 p fr l], p.ours ++ l, p.theirs⟩
noncomputable def sdF (p : Ptn) (fr : ByteArray) (l : List Rec) : Fil := bif ckF (f0 p fr l) != 0 then zF else bif tooB p l then zF else f0 p fr l
noncomputable def sdE (p : Ptn) (fr : ByteArray) (l : List Rec) : Int := bif ckF (f0 p fr l) != 0 then ckF (f0 p fr l) else bif tooB p l then 3 else 0
theorem sd_a {p : Ptn} {fr : ByteArray} {l : List Rec} (h : (ckF (f0 p fr l) != 0) = true) : sdP p fr l = p ∧ sdF p fr l = zF ∧ sdE p fr l = ckF (f0 p fr l) := by unfold sdP sdF sdE; rw [h]; exact ⟨rfl, rfl, rfl⟩
theorem sd_b {p : Ptn} {fr : ByteArray} {l : List Rec} (h : (ckF (f0 p fr l) != 0) = false) (h2 : tooB p l = true) : sdP p fr l = p ∧ sdF p fr l = zF ∧ sdE p fr l = 3 := by unfold sdP sdF sdE; rw [h, h2]; exact ⟨rfl, rfl, rfl⟩
theorem sd_c {p : Ptn} {fr : ByteArray} {l : List Rec} (h : (ckF (f0 p fr l) != 0) = false) (h2 : tooB p l = false) : sdP p fr l = ⟨p.name, p.out + 1, p.inn, p.wait ++ [f0 p fr l], p.ours ++ l, p.theirs⟩ ∧ sdF p fr l = f0 p fr l ∧ sdE p fr l = 0 := by unfold sdP sdF sdE; rw [h, h2]; exact ⟨rfl, rfl, rfl⟩
def zP : Ptn := ⟨⟨#[]⟩, 0, 0, [], [], []⟩
noncomputable def nwP (s : ByteArray) : Ptn := bif Nm.nmB s then ⟨s, 1, 1, [], [], []⟩ else zP
noncomputable def nwE (s : ByteArray) : Int := bif Nm.nmB s then 0 else 6
theorem nw_t {s : ByteArray} (h : Nm.nmB s = true) : nwP s = ⟨s, 1, 1, [], [], []⟩ ∧ nwE s = 0 := by unfold nwP nwE; rw [h]; exact ⟨rfl, rfl⟩
theorem nw_f {s : ByteArray} (h : Nm.nmB s = false) : nwP s = zP ∧ nwE s = 6 := by unfold nwP nwE; rw [h]; exact ⟨rfl, rfl⟩
theorem sdP_ok {p : Ptn} {fr : ByteArray} {l : List Rec} (hp : okP p) (hl : l.length ≤ 1100) : okQ (sdP p fr l) := by
  have h0 : okQ p := ⟨by have := hp.o; omega, by have := hp.t; omega, by have := hp.w; omega, hp.r⟩
  cases h : (ckF (f0 p fr l) != 0) with
  | true => rw [(sd_a h).1]; exact h0
  | false =>
    cases h2 : tooB p l with
    | true => rw [(sd_b h h2).1]; exact h0
    | false =>
      rw [(sd_c h h2).1]
      refine ⟨?_, h0.t, ?_, fun x hx => ?_⟩
      · show (p.ours ++ l).length ≤ 3000
        rw [List.length_append]; have := hp.o; omega
      · show (p.wait ++ [f0 p fr l]).length ≤ 50
        rw [List.length_append]; have := hp.w; simp only [List.length_cons, List.length_nil]; omega
      · have hx : x ∈ p.wait ++ [f0 p fr l] := hx
        rcases List.mem_append.1 hx with h | h
        · exact hp.r x h
        · rw [List.mem_singleton] at h; rw [h]; exact hl
theorem sdF_r {p : Ptn} {fr : ByteArray} {l : List Rec} (hl : l.length ≤ 1100) : (sdF p fr l).recs.length ≤ 1100 := by
  unfold sdF
  cases (ckF (f0 p fr l) != 0) <;> cases (tooB p l) <;> first | (show (0 : Nat) ≤ 1100; omega) | exact hl
theorem nwP_ok (s : ByteArray) : okQ (nwP s) := by
  cases h : Nm.nmB s with
  | true => rw [(nw_t h).1]; exact ⟨by show (0 : Nat) ≤ 3000; omega, by show (0 : Nat) ≤ 3000; omega, by show (0 : Nat) ≤ 50; omega, fun x hx => by cases hx⟩
  | false => rw [(nw_f h).1]; exact ⟨by show (0 : Nat) ≤ 3000; omega, by show (0 : Nat) ≤ 3000; omega, by show (0 : Nat) ≤ 50; omega, fun x hx => by cases hx⟩

set_option maxHeartbeats 4000000 in
set_option maxRecDepth 100000 in
theorem filD (l : List Fil) (hl : l.length ≤ 1000) (hz : ∀ x ∈ l, x.recs.length ≤ 1100) : Ctr Try.prog 26 [.sl 4 (List.map eFil l)] (.d (.sl 4 (List.map eFil l))) := by
  refine ctr (n := 28) (rs := #[.tmp 2]) (L := [(0, .d (.sl 4 (List.map eFil l)))]) Try.func26 rfl rfl rfl rfl rfl (fun w0 U0 => ?_)
  refine a_rseq ?_
  refine rg_put (d := 2) (v := .d (.fl (.slice none 0 0))) rfl (og rfl (op_assign rfl rfl rfl)) ?_
  refine rg_done rfl ?_
  refine a_rseq ?_
  refine rg_put (d := 3) (v := .d (.fl (.slice none 0 0))) rfl (og rfl (op_assign rfl rfl rfl)) ?_
  refine rg_done rfl ?_
  refine a_seq ?_
  refine a_rseq ?_
  refine rg_imp (imp_nilT 3 101 27 4 rfl rfl) ?_
  refine rg_put (d := 4) (v := .d (.fl (.int .i64 0))) rfl (og rfl (op_assign rfl rfl rfl)) ?_
  refine rg_done rfl ?_
  refine a_block ?_
  refine a_loop (ι := Nat) (fun k => SS [(0, .d (.sl 4 (List.map eFil l))), (2, .d (.fl (.slice none 0 0))), (4, .d (.fl (.int .i64 (k : Int)))), (3, .ow 101)] [(101, .tr 27 4 (tD eFil (l.take k)))]) (fun k => k ≤ l.length) (fun k => l.length - k) 0 (by omega) (imp_forget rfl ⟨rfl, rfl, (by first | rfl | exact ci (by omega) | exact ci (by simp) | exact cd (by simp) | simp), (by first | rfl | exact ci (by omega) | exact ci (by simp) | exact cd (by simp) | simp), trivial⟩ ⟨rfl, trivial⟩) (fun k hok => ?_)
  have hk := hok
  have hnl : (l.take k).length = k := by rw [List.length_take]; omega
  refine a_seq ?_
  refine a_rseq ?_
  refine rg_put (d := 6) (v := .d (.fl (.int .i64 (k : Int)))) rfl (og rfl (op_move rfl rfl rfl)) ?_
  refine rg_put (d := 7) (v := .d (.sl 4 (List.map eFil l))) rfl (og rfl (op_move rfl rfl rfl)) ?_
  refine rg_put (d := 8) (v := .d (.fl (.int .i64 (l.length : Int)))) rfl (og rfl (s_len rfl Try.underlying22 rfl rfl)) ?_
  refine rg_put (d := 9) (v := .d (.fl (.bool ((decide ((k : Int) < (l.length : Int))))))) rfl (og rfl (op_bin rfl rfl rfl (b_lss _ _ _ _) rfl)) ?_
  refine rg_done rfl ?_
  refine a_cond rfl (fun h1 => ?_) (fun h1 => ?_)
  · skip
    have h2 := t_dec h1
    refine a_skip ?_
    show A _ _ _ _ _ _ _
    refine a_seq ?_
    refine a_block ?_
    refine a_rseq ?_
    refine rg_put (d := 12) (v := .d (.sl 4 (List.map eFil l))) rfl (og rfl (op_move rfl rfl rfl)) ?_
    refine rg_put (d := 13) (v := .d (.fl (.int .i64 (k : Int)))) rfl (og rfl (op_move rfl rfl rfl)) ?_
    refine rg_put (d := 14) (v := .el ((eFil (ix l k)))) rfl (og rfl (s_index rfl Try.underlying22 ti27 rfl rfl (by omega) (row_at (by omega)) rfl)) ?_
    refine rg_put (d := 15) (v := .d (.ag (eFil (ix l k)))) rfl (og rfl (of_eff (s_load_els rfl Try.underlying27 rfl ti27 rfl rfl rfl) rfl)) ?_
    refine rg_nam (d := 5) (v := .pt 102 0) (m := 102) (nw := [(102, .bx 27 ([.fl (.string (⟨#[]⟩)), .fl (.string (⟨#[]⟩)), .fl (.int .i64 0), .fl (.slice none 0 0)]))]) rfl (og rfl (of_eff (s_alloc 102 rfl ti27 (by kernel_rfl) rfl) rfl)) rfl ?_
    refine rg_sto (nw := [(102, .bx 27 ((eFil (ix l k))))]) rfl (og rfl (of_eff (s_store rfl rfl ti27 rfl rfl rfl rfl rfl rfl) rfl)) ?_
    refine rg_done rfl ?_
    refine a_rseq ?_
    refine rg_put (d := 16) (v := .d (.sl 4 (List.map eFil l))) rfl (og rfl (op_move rfl rfl rfl)) ?_
    refine rg_put (d := 17) (v := .d (.fl (.int .i64 (k : Int)))) rfl (og rfl (op_move rfl rfl rfl)) ?_
    refine rg_put (d := 18) (v := .el ((eFil (ix l k)))) rfl (og rfl (s_index rfl Try.underlying22 ti27 rfl rfl (by omega) (row_at (by omega)) rfl)) ?_
    refine rg_put (d := 19) (v := .el ((List.drop 3 ((eFil (ix l k)))))) rfl (og rfl (of_eff (s_field_el rfl Try.underlying27 rfl ti23 rfl rfl rfl) rfl)) ?_
    refine rg_put (d := 20) (v := .d (.sl 5 (List.map eRec ((ix l k).recs)))) rfl (og rfl (op_load_el rfl Try.underlying23 rfl rfl rfl rfl)) ?_
    refine rg_put (d := 21) (v := .d (.sl 5 (List.map eRec ((ix l k).recs)))) rfl (og rfl (op_call rfl Try.func25 nm25 rfl (.cons rfl (.d _) .nil) (recD ((ix l k).recs) (by have := hz _ (ix_mem (by omega : k < l.length)); omega)) rfl)) ?_
    refine rg_put (d := 22) (v := .pt 102 3) rfl (og rfl (of_eff (s_field_pt rfl Try.underlying27 rfl ti23 rfl rfl rfl) rfl)) ?_
    refine rg_sto (nw := [(102, .bx 27 [.fl (.string ((ix l k).fr)), .fl (.string ((ix l k).to)), .fl (.int .i64 ((ix l k).seq)), .sl 5 (List.map eRec ((ix l k).recs))])]) rfl (og rfl (of_eff (s_store rfl rfl ti23 rfl rfl rfl rfl rfl rfl) rfl)) ?_
    refine rg_done rfl ?_
    refine a_region ?_
    refine rg_put (d := 23) (v := .ow 101) rfl (og rfl (op_move rfl rfl rfl)) ?_
    refine rg_put (d := 24) (v := .d (.ag (eFil (ix l k)))) rfl (og rfl (of_eff (s_load_pts rfl Try.underlying27 rfl ti27 rfl rfl rfl rfl) rfl)) ?_
    refine rg_put (d := 25) (v := .d (.sl 4 (List.map eFil [(ix l k)]))) rfl (og rfl (of_eff (op_slices rfl Try.underlying22 ti27 rfl rfl rfl (by kernel_rfl) (xs := [.ag (eFil (ix l k))]) rfl rfl (.cons rfl rfl (.d _) rfl rfl rfl .nil) rfl) rfl)) ?_
    refine rg_nam (d := 26) (v := .ow 103) (m := 103) (nw := [(103, .tr 27 4 (tD eFil (((l.take k) ++ [(ix l k)])))), (101, .no)]) rfl (og rfl (of_eff (s_append_td 103 rfl Try.underlying22 ti27 rfl rfl rfl rfl rfl (.d _) (by first | omega | (simp only [List.length_append, List.length_cons, List.length_nil]; omega) | (simp only [List.length_take, List.length_drop]; omega)) rfl) rfl)) rfl ?_
    refine rg_put (d := 3) (v := .ow 103) rfl (og rfl (op_assign rfl rfl rfl)) ?_
    refine rg_done rfl ?_
    show A _ _ _ _ _ _ _
    refine a_region ?_
    refine rg_put (d := 10) (v := .d (.fl (.int .i64 (k : Int)))) rfl (og rfl (op_move rfl rfl rfl)) ?_
    refine rg_put (d := 11) (v := .d (.fl (.int .i64 (((k : Int) + 1))))) rfl (og rfl (op_bin rfl rfl rfl (fun x y w => b_add64 _ _ _ x y w (by omega)) rfl)) ?_
    refine rg_put (d := 4) (v := .d (.fl (.int .i64 (((k : Int) + 1))))) rfl (og rfl (op_assign rfl rfl rfl)) ?_
    refine rg_done rfl ?_
    show ∃ i, _ ∧ _ ∧ Imp _ _ _ _ _
    refine ⟨k + 1, (by omega), by omega, imp_ren (fun m => bif Nat.beq m 101 then 103 else m) rfl ⟨rfl, rfl, (by first | rfl | exact ci (by omega) | exact ci (by simp) | exact cd (by simp) | simp), rfl, trivial⟩ ⟨(congrArg (fun z => Ob.tr 27 4 (tD eFil z)) (take_ix (by omega)).symm), trivial⟩⟩
  · skip
    have h3 := f_dec h1
    refine a_exit ?_
    show A _ _ _ _ _ _ _
    refine a_rseq ?_
    rw [show (l.take k) = l from (List.take_of_length_le (by omega))]
    refine rg_put (d := 27) (v := .ow 101) rfl (og rfl (op_move rfl rfl rfl)) ?_
    refine rg_put (d := 2) (v := .ow 101) rfl (og rfl (op_assign rfl rfl rfl)) ?_
    refine rg_done rfl ?_
    refine a_imp (imp_leakT 2 101 rfl rfl) ?_
    refine a_ret ?_
    show ∃ ds, ResL _ _ _ ds ∧ RV.of ds = _
    refine ⟨[.sl 4 (List.map eFil l)], (.cons (.tmp rfl (.d _)) .nil), ?_⟩
    rfl
set_option maxHeartbeats 4000000 in
set_option maxRecDepth 100000 in
theorem sdC (p : Ptn) (fr : ByteArray) (l : List Rec) (hp : okP p) (hkk : ∀ x ∈ l, x.key.size ≤ 300) (hl : l.length ≤ 1100) : Ctr Try.prog 11 [.ag (ePt p), .fl (.string fr), .sl 5 (List.map eRec l)] (.tu [.ag (ePt (sdP p fr l)), .ag (eFil (sdF p fr l)), .fl (.int .i64 (sdE p fr l))]) := by
  refine ctr (n := 62) (rs := #[.cell 6 25, .cell 7 27, .tmp 8]) (L := [(0, .d (.ag (ePt p))), (1, .d (.fl (.string fr))), (2, .d (.sl 5 (List.map eRec l)))]) Try.func11 rfl rfl rfl rfl rfl (fun w0 U0 => ?_)
  refine a_rseq ?_
  refine rg_nam (d := 3) (v := .pt 101 0) (m := 101) (nw := [(101, .bx 25 (ePt p))]) rfl (og rfl (of_eff (op_box 101 rfl rfl rfl rfl) rfl)) rfl ?_
  refine rg_nam (d := 6) (v := .pt 102 0) (m := 102) (nw := [(102, .bx 25 ([.fl (.string (⟨#[]⟩)), .fl (.int .i64 0), .fl (.int .i64 0), .fl (.slice none 0 0), .fl (.slice none 0 0), .fl (.slice none 0 0)]))]) rfl (og rfl (of_eff (s_alloc 102 rfl ti25 (by kernel_rfl) rfl) rfl)) rfl ?_
  refine rg_nam (d := 7) (v := .pt 103 0) (m := 103) (nw := [(103, .bx 27 ([.fl (.string (⟨#[]⟩)), .fl (.string (⟨#[]⟩)), .fl (.int .i64 0), .fl (.slice none 0 0)]))]) rfl (og rfl (of_eff (s_alloc 103 rfl ti27 (by kernel_rfl) rfl) rfl)) rfl ?_
  refine rg_put (d := 8) (v := .d (.fl (.int .i64 0))) rfl (og rfl (op_assign rfl rfl rfl)) ?_
  refine rg_done rfl ?_
  refine a_rseq ?_
  refine rg_put (d := 12) (v := .d (.fl (.string fr))) rfl (og rfl (op_move rfl rfl rfl)) ?_
  refine rg_put (d := 13) (v := .pt 101 0) rfl (og rfl (of_eff (s_field_pt rfl Try.underlying25 rfl ti9 rfl rfl rfl) rfl)) ?_
  refine rg_put (d := 14) (v := .d (.fl (.string p.name))) rfl (og rfl (op_load_pt rfl Try.underlying9 rfl rfl rfl rfl rfl)) ?_
  refine rg_put (d := 15) (v := .pt 101 1) rfl (og rfl (of_eff (s_field_pt rfl Try.underlying25 rfl ti3 rfl rfl rfl) rfl)) ?_
  refine rg_put (d := 16) (v := .d (.fl (.int .i64 p.out))) rfl (og rfl (op_load_pt rfl Try.underlying3 rfl rfl rfl rfl rfl)) ?_
  refine rg_put (d := 17) (v := .d (.sl 5 (List.map eRec l))) rfl (og rfl (op_move rfl rfl rfl)) ?_
  refine rg_put (d := 18) (v := .d (.ag (eFil (Fil.mk fr p.name p.out l)))) rfl (og rfl (of_eff (op_build rfl Try.underlying27 ti27 rfl (by kernel_rfl) (by kernel_rfl) (pl := #[(0, 1), (1, 1), (2, 1), (3, 1)]) (by kernel_rfl) (.cons rfl rfl (.d _) rfl rfl rfl (.cons rfl rfl (.d _) rfl rfl rfl (.cons rfl rfl (.d _) rfl rfl rfl (.cons rfl rfl (.d _) rfl rfl rfl .nil)))) rfl) rfl)) ?_
  refine rg_put (d := 19) (v := .d (.ag (eFil (f0 p fr l)))) rfl (og rfl (op_call rfl Try.func24 nm24 rfl (.cons rfl (.d _) .nil) (copyF (f0 p fr l) hl) rfl)) ?_
  refine rg_nam (d := 9) (v := .pt 104 0) (m := 104) (nw := [(104, .bx 27 ([.fl (.string (⟨#[]⟩)), .fl (.string (⟨#[]⟩)), .fl (.int .i64 0), .fl (.slice none 0 0)]))]) rfl (og rfl (of_eff (s_alloc 104 rfl ti27 (by kernel_rfl) rfl) rfl)) rfl ?_
  refine rg_sto (nw := [(104, .bx 27 ((eFil (f0 p fr l))))]) rfl (og rfl (of_eff (s_store rfl rfl ti27 rfl rfl rfl rfl rfl rfl) rfl)) ?_
  refine rg_done rfl ?_
  refine a_seq ?_
  refine a_rseq ?_
  refine rg_put (d := 20) (v := .d (.ag (eFil (f0 p fr l)))) rfl (og rfl (of_eff (s_load_pts rfl Try.underlying27 rfl ti27 rfl rfl rfl rfl) rfl)) ?_
  refine rg_put (d := 21) (v := .d (.fl (.int .i64 ((ckF (f0 p fr l)))))) rfl (og rfl (op_call rfl Try.func19 nm19 rfl (.cons rfl (.d _) .nil) (ckP (f0 p fr l) hkk) rfl)) ?_
  refine rg_put (d := 10) (v := .d (.fl (.int .i64 ((ckF (f0 p fr l)))))) rfl (og rfl (op_assign rfl rfl rfl)) ?_
  refine rg_done rfl ?_
  refine a_rseq ?_
  refine rg_put (d := 22) (v := .d (.fl (.int .i64 ((ckF (f0 p fr l)))))) rfl (og rfl (op_move rfl rfl rfl)) ?_
  refine rg_put (d := 23) (v := .d (.fl (.bool (((ckF (f0 p fr l)) != 0))))) rfl (og rfl (op_bin rfl rfl rfl (b_neq _ _ _ _) rfl)) ?_
  refine rg_done rfl ?_
  refine a_cond rfl (fun h1 => ?_) (fun h1 => ?_)
  · skip
    have h2 := t_bne h1
    refine a_rseq ?_
    refine rg_put (d := 24) (v := .d (.ag (ePt p))) rfl (og rfl (of_eff (s_load_pts rfl Try.underlying25 rfl ti25 rfl rfl rfl rfl) rfl)) ?_
    refine rg_put (d := 25) (v := .d (.ag [.fl (.string (⟨#[]⟩)), .fl (.string (⟨#[]⟩)), .fl (.int .i64 0), .fl (.slice none 0 0)])) rfl (og rfl (of_eff (op_build rfl Try.underlying27 ti27 rfl (by kernel_rfl) (by kernel_rfl) (pl := #[(0, 1), (1, 1), (2, 1), (3, 1)]) (by kernel_rfl) .nil rfl) rfl)) ?_
    refine rg_put (d := 26) (v := .d (.fl (.int .i64 ((ckF (f0 p fr l)))))) rfl (og rfl (op_move rfl rfl rfl)) ?_
    refine rg_sto (nw := [(102, .bx 25 (ePt p))]) rfl (og rfl (of_eff (s_store rfl rfl ti25 rfl rfl rfl rfl rfl rfl) rfl)) ?_
    refine rg_sto (nw := [(103, .bx 27 ([.fl (.string (⟨#[]⟩)), .fl (.string (⟨#[]⟩)), .fl (.int .i64 0), .fl (.slice none 0 0)]))]) rfl (og rfl (of_eff (s_store rfl rfl ti27 rfl rfl rfl rfl rfl rfl) rfl)) ?_
    refine rg_put (d := 8) (v := .d (.fl (.int .i64 ((ckF (f0 p fr l)))))) rfl (og rfl (op_assign rfl rfl rfl)) ?_
    refine rg_done rfl ?_
    refine a_ret ?_
    show ∃ ds, ResL _ _ _ ds ∧ RV.of ds = _
    refine ⟨[.ag [.fl (.string p.name), .fl (.int .i64 p.out), .fl (.int .i64 p.inn), .sl 4 (List.map eFil p.wait), .sl 5 (List.map eRec p.ours), .sl 5 (List.map eRec p.theirs)], .ag [.fl (.string (⟨#[]⟩)), .fl (.string (⟨#[]⟩)), .fl (.int .i64 0), .sl 5 (List.map eRec [])], .fl (.int .i64 ((ckF (f0 p fr l))))], (.cons (.cellT rfl rfl Try.underlying25 rfl ti25 rfl (Cv.ag (xs := [.fl (.string p.name), .fl (.int .i64 p.out), .fl (.int .i64 p.inn), .sl 4 (List.map eFil p.wait), .sl 5 (List.map eRec p.ours), .sl 5 (List.map eRec p.theirs)]) (ys := [.fl (.string p.name), .fl (.int .i64 p.out), .fl (.int .i64 p.inn), .sl 4 (List.map eFil p.wait), .sl 5 (List.map eRec p.ours), .sl 5 (List.map eRec p.theirs)]) ⟨Cv.refl _, Cv.refl _, Cv.refl _, Cv.refl _, Cv.refl _, Cv.refl _, trivial⟩)) (.cons (.cellT rfl rfl Try.underlying27 rfl ti27 rfl (Cv.ag (xs := [.fl (.string (⟨#[]⟩)), .fl (.string (⟨#[]⟩)), .fl (.int .i64 0), .fl (.slice none 0 0)]) (ys := [.fl (.string (⟨#[]⟩)), .fl (.string (⟨#[]⟩)), .fl (.int .i64 0), .sl 5 (List.map eRec [])]) ⟨Cv.refl _, Cv.refl _, Cv.refl _, Cv.nil _, trivial⟩)) (.cons (.tmp rfl (.d _)) .nil))), ?_⟩
    obtain ⟨hu1, hu2, hu3⟩ := sd_a h1
    rw [hu1, hu2, hu3]; rfl
  · skip
    have h3 := f_bne h1
    refine a_skip ?_
    show A _ _ _ _ _ _ _
    refine a_seq ?_
    refine a_rseq ?_
    have hpw := hp.w
    have hpo := hp.o
    refine rg_put (d := 27) (v := .pt 101 3) rfl (og rfl (of_eff (s_field_pt rfl Try.underlying25 rfl ti22 rfl rfl rfl) rfl)) ?_
    refine rg_put (d := 28) (v := .d (.sl 4 (List.map eFil p.wait))) rfl (og rfl (op_load_pt rfl Try.underlying22 rfl rfl rfl rfl rfl)) ?_
    refine rg_put (d := 29) (v := .d (.fl (.int .i64 (p.wait.length : Int)))) rfl (og rfl (s_len rfl Try.underlying22 rfl rfl)) ?_
    refine rg_put (d := 30) (v := .d (.fl (.bool ((decide (1024 ≤ (p.wait.length : Int))))))) rfl (og rfl (op_bin rfl rfl rfl (b_geq _ _ _ _) rfl)) ?_
    refine rg_put (d := 31) (v := .d (.fl (.bool ((decide (1024 ≤ (p.wait.length : Int))))))) rfl (og rfl (op_move rfl rfl rfl)) ?_
    rcases fot ((decide (1024 ≤ (p.wait.length : Int)))) with h4 | h4
    · skip
      have h5 := f_dec h4
      refine rg_put (d := 32) (v := .pt 101 4) rfl (oy rfl rfl rfl h4 (of_eff (s_field_pt rfl Try.underlying25 rfl ti23 rfl rfl rfl) rfl)) ?_
      refine rg_put (d := 33) (v := .d (.sl 5 (List.map eRec p.ours))) rfl (oy rfl rfl rfl h4 (op_load_pt rfl Try.underlying23 rfl rfl rfl rfl rfl)) ?_
      refine rg_put (d := 34) (v := .d (.fl (.int .i64 (p.ours.length : Int)))) rfl (oy rfl rfl rfl h4 (s_len rfl Try.underlying23 rfl rfl)) ?_
      refine rg_put (d := 35) (v := .d (.sl 5 (List.map eRec l))) rfl (oy rfl rfl rfl h4 (op_move rfl rfl rfl)) ?_
      refine rg_put (d := 36) (v := .d (.fl (.int .i64 (l.length : Int)))) rfl (oy rfl rfl rfl h4 (s_len rfl Try.underlying23 rfl rfl)) ?_
      refine rg_put (d := 37) (v := .d (.fl (.int .i64 (((p.ours.length : Int) + (l.length : Int)))))) rfl (oy rfl rfl rfl h4 (op_bin rfl rfl rfl (fun x y w => b_add64 _ _ _ x y w (by omega)) rfl)) ?_
      refine rg_put (d := 38) (v := .d (.fl (.bool ((decide (1024 < ((p.ours.length : Int) + (l.length : Int)))))))) rfl (oy rfl rfl rfl h4 (op_bin rfl rfl rfl (b_gtr _ _ _ _) rfl)) ?_
      refine rg_put (d := 39) (v := .d (.fl (.bool ((decide (1024 < ((p.ours.length : Int) + (l.length : Int)))))))) rfl (og rfl (op_pick rfl rfl (by rw [h4]; rfl) rfl)) ?_
      refine rg_done rfl ?_
      refine a_cond rfl (fun h6 => ?_) (fun h6 => ?_)
      · skip
        have h7 := t_dec h6
        refine a_rseq ?_
        refine rg_put (d := 40) (v := .d (.ag (ePt p))) rfl (og rfl (of_eff (s_load_pts rfl Try.underlying25 rfl ti25 rfl rfl rfl rfl) rfl)) ?_
        refine rg_put (d := 41) (v := .d (.ag [.fl (.string (⟨#[]⟩)), .fl (.string (⟨#[]⟩)), .fl (.int .i64 0), .fl (.slice none 0 0)])) rfl (og rfl (of_eff (op_build rfl Try.underlying27 ti27 rfl (by kernel_rfl) (by kernel_rfl) (pl := #[(0, 1), (1, 1), (2, 1), (3, 1)]) (by kernel_rfl) .nil rfl) rfl)) ?_
        refine rg_sto (nw := [(102, .bx 25 (ePt p))]) rfl (og rfl (of_eff (s_store rfl rfl ti25 rfl rfl rfl rfl rfl rfl) rfl)) ?_
        refine rg_sto (nw := [(103, .bx 27 ([.fl (.string (⟨#[]⟩)), .fl (.string (⟨#[]⟩)), .fl (.int .i64 0), .fl (.slice none 0 0)]))]) rfl (og rfl (of_eff (s_store rfl rfl ti27 rfl rfl rfl rfl rfl rfl) rfl)) ?_
        refine rg_put (d := 8) (v := .d (.fl (.int .i64 3))) rfl (og rfl (op_assign rfl rfl rfl)) ?_
        refine rg_done rfl ?_
        refine a_ret ?_
        show ∃ ds, ResL _ _ _ ds ∧ RV.of ds = _
        refine ⟨[.ag [.fl (.string p.name), .fl (.int .i64 p.out), .fl (.int .i64 p.inn), .sl 4 (List.map eFil p.wait), .sl 5 (List.map eRec p.ours), .sl 5 (List.map eRec p.theirs)], .ag [.fl (.string (⟨#[]⟩)), .fl (.string (⟨#[]⟩)), .fl (.int .i64 0), .sl 5 (List.map eRec [])], .fl (.int .i64 3)], (.cons (.cellT rfl rfl Try.underlying25 rfl ti25 rfl (Cv.ag (xs := [.fl (.string p.name), .fl (.int .i64 p.out), .fl (.int .i64 p.inn), .sl 4 (List.map eFil p.wait), .sl 5 (List.map eRec p.ours), .sl 5 (List.map eRec p.theirs)]) (ys := [.fl (.string p.name), .fl (.int .i64 p.out), .fl (.int .i64 p.inn), .sl 4 (List.map eFil p.wait), .sl 5 (List.map eRec p.ours), .sl 5 (List.map eRec p.theirs)]) ⟨Cv.refl _, Cv.refl _, Cv.refl _, Cv.refl _, Cv.refl _, Cv.refl _, trivial⟩)) (.cons (.cellT rfl rfl Try.underlying27 rfl ti27 rfl (Cv.ag (xs := [.fl (.string (⟨#[]⟩)), .fl (.string (⟨#[]⟩)), .fl (.int .i64 0), .fl (.slice none 0 0)]) (ys := [.fl (.string (⟨#[]⟩)), .fl (.string (⟨#[]⟩)), .fl (.int .i64 0), .sl 5 (List.map eRec [])]) ⟨Cv.refl _, Cv.refl _, Cv.refl _, Cv.nil _, trivial⟩)) (.cons (.tmp rfl (.d _)) .nil))), ?_⟩
        have htb : tooB p l = true := by unfold tooB; simp only [h1, h4, h6, Bool.true_or, Bool.false_or, Bool.or_true, Bool.or_false, Bool.not_true, Bool.not_false, cond_true, cond_false, Bool.true_and, Bool.false_and, Bool.and_true, Bool.and_false] <;> rfl
        obtain ⟨hu1, hu2, hu3⟩ := sd_b h1 htb
        rw [hu1, hu2, hu3]; rfl
      · skip
        have h8 := f_dec h6
        refine a_skip ?_
        show A _ _ _ _ _ _ _
        refine a_rseq ?_
        refine rg_put (d := 42) (v := .d (.ag (ePt p))) rfl (og rfl (of_eff (s_load_pts rfl Try.underlying25 rfl ti25 rfl rfl rfl rfl) rfl)) ?_
        refine rg_nam (d := 43) (v := .ow 105) (m := 105) (nw := [(105, .sv [.dv (.fl (.string p.name)), .dv (.fl (.int .i64 p.out)), .dv (.fl (.int .i64 p.inn)), .ow 27 4 (List.map eFil p.wait), .ow 48 5 (List.map eRec p.ours), .ow 48 5 (List.map eRec p.theirs)])]) rfl (og rfl (of_eff (op_callO 105 rfl Try.func20 nm20 rfl (.cons rfl (.d _) .nil) (freshP p hp) rfl) rfl)) rfl ?_
        refine rg_nam (d := 11) (v := .pt 106 0) (m := 106) (nw := [(106, .bx 25 ([.fl (.string (⟨#[]⟩)), .fl (.int .i64 0), .fl (.int .i64 0), .fl (.slice none 0 0), .fl (.slice none 0 0), .fl (.slice none 0 0)]))]) rfl (og rfl (of_eff (s_alloc 106 rfl ti25 (by kernel_rfl) rfl) rfl)) rfl ?_
        refine rg_imp (imp_bt 106 rfl) ?_
        refine rg_sto (nw := [(106, .bt 25 [.dv (.fl (.string p.name)), .dv (.fl (.int .i64 p.out)), .dv (.fl (.int .i64 p.inn)), .ow 27 4 (List.map eFil p.wait), .ow 48 5 (List.map eRec p.ours), .ow 48 5 (List.map eRec p.theirs)]), (105, .no)]) rfl (og rfl (of_eff (op_store_bt rfl rfl ti25 rfl rfl rfl (.sv rfl) rfl rfl rfl) rfl)) ?_
        refine rg_done rfl ?_
        refine a_rseq ?_
        obtain ⟨⟨hs1, hs2⟩, hs3⟩ := ck_0 (f := f0 p fr l) (f_bne h1)
        have hs1 : 1 ≤ p.out := hs1
        have hs2 : p.out ≤ 2147483648 := hs2
        refine rg_put (d := 44) (v := .pt 106 1) rfl (og rfl (of_eff (s_field_pt rfl Try.underlying25 rfl ti3 rfl rfl rfl) rfl)) ?_
        refine rg_put (d := 45) (v := .d (.fl (.int .i64 p.out))) rfl (og rfl (op_load_bt rfl Try.underlying3 rfl rfl rfl rfl rfl)) ?_
        refine rg_put (d := 46) (v := .d (.fl (.int .i64 (p.out + 1)))) rfl (og rfl (op_bin rfl rfl rfl (fun x y w => b_add64 _ _ _ x y w (by omega)) rfl)) ?_
        refine rg_put (d := 47) (v := .pt 106 1) rfl (og rfl (of_eff (s_field_pt rfl Try.underlying25 rfl ti3 rfl rfl rfl) rfl)) ?_
        refine rg_sto (nw := [(106, .bt 25 [.dv (.fl (.string p.name)), .dv (.fl (.int .i64 (p.out + 1))), .dv (.fl (.int .i64 p.inn)), .ow 27 4 (List.map eFil p.wait), .ow 48 5 (List.map eRec p.ours), .ow 48 5 (List.map eRec p.theirs)])]) rfl (og rfl (of_eff (op_store_bt rfl rfl ti3 rfl rfl rfl (.d rfl) rfl rfl rfl) rfl)) ?_
        refine rg_done rfl ?_
        refine a_dseq (by kernel_rfl) ?_
        refine dr_put (d := 48) (v := .pt 106 3) rfl (og rfl (of_eff (s_field_pt rfl Try.underlying25 rfl ti22 rfl rfl rfl) rfl)) ?_
        refine dr_nam (d := 49) (v := .ow 107) (m := 107) (nw := [(107, .tr 27 4 (tD eFil p.wait)), (106, .bt 25 [.dv (.fl (.string p.name)), .dv (.fl (.int .i64 (p.out + 1))), .dv (.fl (.int .i64 p.inn)), .un, .ow 48 5 (List.map eRec p.ours), .ow 48 5 (List.map eRec p.theirs)])]) rfl (og rfl (of_eff (op_takeBt 107 rfl Try.underlying22 rfl rfl rfl rfl rfl rfl) rfl)) ?_
        refine dr_put (d := 50) (v := .d (.ag (eFil (f0 p fr l)))) rfl (og rfl (of_eff (s_load_pts rfl Try.underlying27 rfl ti27 rfl rfl rfl rfl) rfl)) ?_
        refine dr_put (d := 51) (v := .d (.ag (eFil (f0 p fr l)))) rfl (og rfl (op_call rfl Try.func24 nm24 rfl (.cons rfl (.d _) .nil) (copyF (f0 p fr l) hl) rfl)) ?_
        refine dr_put (d := 52) (v := .d (.sl 4 (List.map eFil [(f0 p fr l)]))) rfl (og rfl (of_eff (op_slices rfl Try.underlying22 ti27 rfl rfl rfl (by kernel_rfl) (xs := [.ag (eFil (f0 p fr l))]) rfl rfl (.cons rfl rfl (.d _) rfl rfl rfl .nil) rfl) rfl)) ?_
        refine dr_nam (d := 53) (v := .ow 108) (m := 108) (nw := [(108, .tr 27 4 (tD eFil ((p.wait ++ [(f0 p fr l)])))), (107, .no)]) rfl (og rfl (of_eff (s_append_td 108 rfl Try.underlying22 ti27 rfl rfl rfl rfl rfl (.d _) (by first | omega | (simp only [List.length_append, List.length_cons, List.length_nil]; omega) | (simp only [List.length_take, List.length_drop]; omega)) rfl) rfl)) ?_
        refine dr_put (d := 54) (v := .pt 106 3) rfl (og rfl (of_eff (s_field_pt rfl Try.underlying25 rfl ti22 rfl rfl rfl) rfl)) ?_
        refine dr_sto (nw := [(106, .bt 25 [.dv (.fl (.string p.name)), .dv (.fl (.int .i64 (p.out + 1))), .dv (.fl (.int .i64 p.inn)), .ow 27 4 (List.map eFil ((p.wait ++ [(f0 p fr l)]))), .ow 48 5 (List.map eRec p.ours), .ow 48 5 (List.map eRec p.theirs)]), (108, .no)]) rfl (og rfl (of_eff (op_store_bt rfl rfl ti22 rfl rfl rfl (.tr rfl) rfl rfl rfl) rfl)) ?_
        refine dr_done rfl (by kernel_rfl) (by kernel_rfl) ?_
        refine a_rseq ?_
        refine rg_put (d := 55) (v := .pt 106 4) rfl (og rfl (of_eff (s_field_pt rfl Try.underlying25 rfl ti23 rfl rfl rfl) rfl)) ?_
        refine rg_nam (d := 56) (v := .ow 109) (m := 109) (nw := [(109, .tr 48 5 (tD eRec p.ours)), (106, .bt 25 [.dv (.fl (.string p.name)), .dv (.fl (.int .i64 (p.out + 1))), .dv (.fl (.int .i64 p.inn)), .ow 27 4 (List.map eFil ((p.wait ++ [(f0 p fr l)]))), .un, .ow 48 5 (List.map eRec p.theirs)])]) rfl (og rfl (of_eff (op_takeBt 109 rfl Try.underlying23 rfl rfl rfl rfl rfl rfl) rfl)) rfl ?_
        refine rg_put (d := 57) (v := .d (.sl 5 (List.map eRec l))) rfl (og rfl (op_move rfl rfl rfl)) ?_
        refine rg_nam (d := 58) (v := .ow 110) (m := 110) (nw := [(110, .tr 48 5 (tD eRec (p.ours ++ l))), (109, .no)]) rfl (og rfl (of_eff (s_append_td 110 rfl Try.underlying23 ti48 rfl rfl rfl rfl rfl (.d _) (by first | omega | (simp only [List.length_append, List.length_cons, List.length_nil]; omega) | (simp only [List.length_take, List.length_drop]; omega)) rfl) rfl)) rfl ?_
        refine rg_put (d := 59) (v := .pt 106 4) rfl (og rfl (of_eff (s_field_pt rfl Try.underlying25 rfl ti23 rfl rfl rfl) rfl)) ?_
        refine rg_sto (nw := [(106, .bt 25 [.dv (.fl (.string p.name)), .dv (.fl (.int .i64 (p.out + 1))), .dv (.fl (.int .i64 p.inn)), .ow 27 4 (List.map eFil ((p.wait ++ [(f0 p fr l)]))), .ow 48 5 (List.map eRec (p.ours ++ l)), .ow 48 5 (List.map eRec p.theirs)]), (110, .no)]) rfl (og rfl (of_eff (op_store_bt rfl rfl ti23 rfl rfl rfl (.tr rfl) rfl rfl rfl) rfl)) ?_
        refine rg_imp (imp_leakBt 106 (ds := [.fl (.string p.name), .fl (.int .i64 (p.out + 1)), .fl (.int .i64 p.inn), .sl 4 (List.map eFil ((p.wait ++ [(f0 p fr l)]))), .sl 5 (List.map eRec (p.ours ++ l)), .sl 5 (List.map eRec p.theirs)]) rfl rfl rfl) ?_
        refine rg_done rfl ?_
        refine a_dseq (by kernel_rfl) ?_
        refine dr_put (d := 60) (v := .d (.ag (ePt ((Ptn.mk p.name (p.out + 1) p.inn ((p.wait ++ [(f0 p fr l)])) (p.ours ++ l) p.theirs))))) rfl (og rfl (of_eff (s_load_pts rfl Try.underlying25 rfl ti25 rfl rfl rfl rfl) rfl)) ?_
        refine dr_put (d := 61) (v := .d (.ag (eFil (f0 p fr l)))) rfl (og rfl (of_eff (s_load_pts rfl Try.underlying27 rfl ti27 rfl rfl rfl rfl) rfl)) ?_
        refine dr_sto (nw := [(102, .bx 25 ((ePt ((Ptn.mk p.name (p.out + 1) p.inn ((p.wait ++ [(f0 p fr l)])) (p.ours ++ l) p.theirs)))))]) rfl (og rfl (of_eff (s_store rfl rfl ti25 rfl rfl rfl rfl rfl rfl) rfl)) ?_
        refine dr_sto (nw := [(103, .bx 27 ((eFil (f0 p fr l))))]) rfl (og rfl (of_eff (s_store rfl rfl ti27 rfl rfl rfl rfl rfl rfl) rfl)) ?_
        refine dr_put (d := 8) (v := .d (.fl (.int .i64 0))) rfl (og rfl (op_assign rfl rfl rfl)) ?_
        refine dr_done rfl (by kernel_rfl) (by kernel_rfl) ?_
        refine a_ret ?_
        show ∃ ds, ResL _ _ _ ds ∧ RV.of ds = _
        refine ⟨[.ag [.fl (.string ((Ptn.mk p.name (p.out + 1) p.inn (p.wait ++ [(f0 p fr l)]) (p.ours ++ l) p.theirs).name)), .fl (.int .i64 ((Ptn.mk p.name (p.out + 1) p.inn (p.wait ++ [(f0 p fr l)]) (p.ours ++ l) p.theirs).out)), .fl (.int .i64 ((Ptn.mk p.name (p.out + 1) p.inn (p.wait ++ [(f0 p fr l)]) (p.ours ++ l) p.theirs).inn)), .sl 4 (List.map eFil ((Ptn.mk p.name (p.out + 1) p.inn (p.wait ++ [(f0 p fr l)]) (p.ours ++ l) p.theirs).wait)), .sl 5 (List.map eRec ((Ptn.mk p.name (p.out + 1) p.inn (p.wait ++ [(f0 p fr l)]) (p.ours ++ l) p.theirs).ours)), .sl 5 (List.map eRec ((Ptn.mk p.name (p.out + 1) p.inn (p.wait ++ [(f0 p fr l)]) (p.ours ++ l) p.theirs).theirs))], .ag [.fl (.string ((f0 p fr l).fr)), .fl (.string ((f0 p fr l).to)), .fl (.int .i64 ((f0 p fr l).seq)), .sl 5 (List.map eRec ((f0 p fr l).recs))], .fl (.int .i64 0)], (.cons (.cellT rfl rfl Try.underlying25 rfl ti25 rfl (Cv.ag (xs := [.fl (.string ((Ptn.mk p.name (p.out + 1) p.inn (p.wait ++ [(f0 p fr l)]) (p.ours ++ l) p.theirs).name)), .fl (.int .i64 ((Ptn.mk p.name (p.out + 1) p.inn (p.wait ++ [(f0 p fr l)]) (p.ours ++ l) p.theirs).out)), .fl (.int .i64 ((Ptn.mk p.name (p.out + 1) p.inn (p.wait ++ [(f0 p fr l)]) (p.ours ++ l) p.theirs).inn)), .sl 4 (List.map eFil ((Ptn.mk p.name (p.out + 1) p.inn (p.wait ++ [(f0 p fr l)]) (p.ours ++ l) p.theirs).wait)), .sl 5 (List.map eRec ((Ptn.mk p.name (p.out + 1) p.inn (p.wait ++ [(f0 p fr l)]) (p.ours ++ l) p.theirs).ours)), .sl 5 (List.map eRec ((Ptn.mk p.name (p.out + 1) p.inn (p.wait ++ [(f0 p fr l)]) (p.ours ++ l) p.theirs).theirs))]) (ys := [.fl (.string ((Ptn.mk p.name (p.out + 1) p.inn (p.wait ++ [(f0 p fr l)]) (p.ours ++ l) p.theirs).name)), .fl (.int .i64 ((Ptn.mk p.name (p.out + 1) p.inn (p.wait ++ [(f0 p fr l)]) (p.ours ++ l) p.theirs).out)), .fl (.int .i64 ((Ptn.mk p.name (p.out + 1) p.inn (p.wait ++ [(f0 p fr l)]) (p.ours ++ l) p.theirs).inn)), .sl 4 (List.map eFil ((Ptn.mk p.name (p.out + 1) p.inn (p.wait ++ [(f0 p fr l)]) (p.ours ++ l) p.theirs).wait)), .sl 5 (List.map eRec ((Ptn.mk p.name (p.out + 1) p.inn (p.wait ++ [(f0 p fr l)]) (p.ours ++ l) p.theirs).ours)), .sl 5 (List.map eRec ((Ptn.mk p.name (p.out + 1) p.inn (p.wait ++ [(f0 p fr l)]) (p.ours ++ l) p.theirs).theirs))]) ⟨Cv.refl _, Cv.refl _, Cv.refl _, Cv.refl _, Cv.refl _, Cv.refl _, trivial⟩)) (.cons (.cellT rfl rfl Try.underlying27 rfl ti27 rfl (Cv.ag (xs := [.fl (.string ((f0 p fr l).fr)), .fl (.string ((f0 p fr l).to)), .fl (.int .i64 ((f0 p fr l).seq)), .sl 5 (List.map eRec ((f0 p fr l).recs))]) (ys := [.fl (.string ((f0 p fr l).fr)), .fl (.string ((f0 p fr l).to)), .fl (.int .i64 ((f0 p fr l).seq)), .sl 5 (List.map eRec ((f0 p fr l).recs))]) ⟨Cv.refl _, Cv.refl _, Cv.refl _, Cv.refl _, trivial⟩)) (.cons (.tmp rfl (.d _)) .nil))), ?_⟩
        have htb : tooB p l = false := by unfold tooB; simp only [h1, h4, h6, Bool.true_or, Bool.false_or, Bool.or_true, Bool.or_false, Bool.not_true, Bool.not_false, cond_true, cond_false, Bool.true_and, Bool.false_and, Bool.and_true, Bool.and_false] <;> rfl
        obtain ⟨hu1, hu2, hu3⟩ := sd_c h1 htb
        rw [hu1, hu2, hu3]; rfl
    · skip
      have h9 := t_dec h4
      refine rg_put (d := 32) (v := .d (.fl undef)) rfl (on rfl rfl rfl h4) ?_
      refine rg_put (d := 33) (v := .d (.fl undef)) rfl (on rfl rfl rfl h4) ?_
      refine rg_put (d := 34) (v := .d (.fl undef)) rfl (on rfl rfl rfl h4) ?_
      refine rg_put (d := 35) (v := .d (.fl undef)) rfl (on rfl rfl rfl h4) ?_
      refine rg_put (d := 36) (v := .d (.fl undef)) rfl (on rfl rfl rfl h4) ?_
      refine rg_put (d := 37) (v := .d (.fl undef)) rfl (on rfl rfl rfl h4) ?_
      refine rg_put (d := 38) (v := .d (.fl undef)) rfl (on rfl rfl rfl h4) ?_
      refine rg_put (d := 39) (v := .d (.fl (.bool true))) rfl (og rfl (op_pick rfl rfl (by rw [h4]; rfl) rfl)) ?_
      refine rg_done rfl ?_
      refine a_condK rfl rfl ?_
      refine a_rseq ?_
      refine rg_put (d := 40) (v := .d (.ag (ePt p))) rfl (og rfl (of_eff (s_load_pts rfl Try.underlying25 rfl ti25 rfl rfl rfl rfl) rfl)) ?_
      refine rg_put (d := 41) (v := .d (.ag [.fl (.string (⟨#[]⟩)), .fl (.string (⟨#[]⟩)), .fl (.int .i64 0), .fl (.slice none 0 0)])) rfl (og rfl (of_eff (op_build rfl Try.underlying27 ti27 rfl (by kernel_rfl) (by kernel_rfl) (pl := #[(0, 1), (1, 1), (2, 1), (3, 1)]) (by kernel_rfl) .nil rfl) rfl)) ?_
      refine rg_sto (nw := [(102, .bx 25 (ePt p))]) rfl (og rfl (of_eff (s_store rfl rfl ti25 rfl rfl rfl rfl rfl rfl) rfl)) ?_
      refine rg_sto (nw := [(103, .bx 27 ([.fl (.string (⟨#[]⟩)), .fl (.string (⟨#[]⟩)), .fl (.int .i64 0), .fl (.slice none 0 0)]))]) rfl (og rfl (of_eff (s_store rfl rfl ti27 rfl rfl rfl rfl rfl rfl) rfl)) ?_
      refine rg_put (d := 8) (v := .d (.fl (.int .i64 3))) rfl (og rfl (op_assign rfl rfl rfl)) ?_
      refine rg_done rfl ?_
      refine a_ret ?_
      show ∃ ds, ResL _ _ _ ds ∧ RV.of ds = _
      refine ⟨[.ag [.fl (.string p.name), .fl (.int .i64 p.out), .fl (.int .i64 p.inn), .sl 4 (List.map eFil p.wait), .sl 5 (List.map eRec p.ours), .sl 5 (List.map eRec p.theirs)], .ag [.fl (.string (⟨#[]⟩)), .fl (.string (⟨#[]⟩)), .fl (.int .i64 0), .sl 5 (List.map eRec [])], .fl (.int .i64 3)], (.cons (.cellT rfl rfl Try.underlying25 rfl ti25 rfl (Cv.ag (xs := [.fl (.string p.name), .fl (.int .i64 p.out), .fl (.int .i64 p.inn), .sl 4 (List.map eFil p.wait), .sl 5 (List.map eRec p.ours), .sl 5 (List.map eRec p.theirs)]) (ys := [.fl (.string p.name), .fl (.int .i64 p.out), .fl (.int .i64 p.inn), .sl 4 (List.map eFil p.wait), .sl 5 (List.map eRec p.ours), .sl 5 (List.map eRec p.theirs)]) ⟨Cv.refl _, Cv.refl _, Cv.refl _, Cv.refl _, Cv.refl _, Cv.refl _, trivial⟩)) (.cons (.cellT rfl rfl Try.underlying27 rfl ti27 rfl (Cv.ag (xs := [.fl (.string (⟨#[]⟩)), .fl (.string (⟨#[]⟩)), .fl (.int .i64 0), .fl (.slice none 0 0)]) (ys := [.fl (.string (⟨#[]⟩)), .fl (.string (⟨#[]⟩)), .fl (.int .i64 0), .sl 5 (List.map eRec [])]) ⟨Cv.refl _, Cv.refl _, Cv.refl _, Cv.nil _, trivial⟩)) (.cons (.tmp rfl (.d _)) .nil))), ?_⟩
      have htb : tooB p l = true := by unfold tooB; simp only [h1, h4, Bool.true_or, Bool.false_or, Bool.or_true, Bool.or_false, Bool.not_true, Bool.not_false, cond_true, cond_false, Bool.true_and, Bool.false_and, Bool.and_true, Bool.and_false] <;> rfl
      obtain ⟨hu1, hu2, hu3⟩ := sd_b h1 htb
      rw [hu1, hu2, hu3]; rfl
set_option maxHeartbeats 4000000 in
set_option maxRecDepth 100000 in
theorem sdR (p : Ptn) (fr : ByteArray) (l : List Rec) (hp : okP p) (hkk : ∀ x ∈ l, x.key.size ≤ 300) (hl : l.length ≤ 1100) : Ctr Try.prog 12 [.ag (ePt p), .fl (.string fr), .sl 5 (List.map eRec l)] (.tu [.ag (ePt (sdP p fr l)), .ag (eFil (sdF p fr l)), .fl (.int .i64 (sdE p fr l))]) := by
  refine ctr (n := 62) (rs := #[.cell 6 25, .cell 7 27, .tmp 8]) (L := [(0, .d (.ag (ePt p))), (1, .d (.fl (.string fr))), (2, .d (.sl 5 (List.map eRec l)))]) Try.func12 rfl rfl rfl rfl rfl (fun w0 U0 => ?_)
  refine a_rseq ?_
  refine rg_nam (d := 3) (v := .pt 101 0) (m := 101) (nw := [(101, .bx 25 (ePt p))]) rfl (og rfl (of_eff (op_box 101 rfl rfl rfl rfl) rfl)) rfl ?_
  refine rg_nam (d := 6) (v := .pt 102 0) (m := 102) (nw := [(102, .bx 25 ([.fl (.string (⟨#[]⟩)), .fl (.int .i64 0), .fl (.int .i64 0), .fl (.slice none 0 0), .fl (.slice none 0 0), .fl (.slice none 0 0)]))]) rfl (og rfl (of_eff (s_alloc 102 rfl ti25 (by kernel_rfl) rfl) rfl)) rfl ?_
  refine rg_nam (d := 7) (v := .pt 103 0) (m := 103) (nw := [(103, .bx 27 ([.fl (.string (⟨#[]⟩)), .fl (.string (⟨#[]⟩)), .fl (.int .i64 0), .fl (.slice none 0 0)]))]) rfl (og rfl (of_eff (s_alloc 103 rfl ti27 (by kernel_rfl) rfl) rfl)) rfl ?_
  refine rg_put (d := 8) (v := .d (.fl (.int .i64 0))) rfl (og rfl (op_assign rfl rfl rfl)) ?_
  refine rg_done rfl ?_
  refine a_dseq (by kernel_rfl) ?_
  refine dr_put (d := 12) (v := .d (.fl (.string fr))) rfl (og rfl (op_move rfl rfl rfl)) ?_
  refine dr_put (d := 13) (v := .pt 101 0) rfl (og rfl (of_eff (s_field_pt rfl Try.underlying25 rfl ti9 rfl rfl rfl) rfl)) ?_
  refine dr_put (d := 14) (v := .d (.fl (.string p.name))) rfl (og rfl (op_load_pt rfl Try.underlying9 rfl rfl rfl rfl rfl)) ?_
  refine dr_put (d := 15) (v := .pt 101 1) rfl (og rfl (of_eff (s_field_pt rfl Try.underlying25 rfl ti3 rfl rfl rfl) rfl)) ?_
  refine dr_put (d := 16) (v := .d (.fl (.int .i64 p.out))) rfl (og rfl (op_load_pt rfl Try.underlying3 rfl rfl rfl rfl rfl)) ?_
  refine dr_put (d := 17) (v := .d (.sl 5 (List.map eRec l))) rfl (og rfl (op_move rfl rfl rfl)) ?_
  refine dr_put (d := 18) (v := .d (.sl 5 (List.map eRec l))) rfl (og rfl (op_call rfl Try.func25 nm25 rfl (.cons rfl (.d _) .nil) (recD l (by omega)) rfl)) ?_
  refine dr_put (d := 19) (v := .d (.ag (eFil (Fil.mk fr p.name p.out l)))) rfl (og rfl (of_eff (op_build rfl Try.underlying27 ti27 rfl (by kernel_rfl) (by kernel_rfl) (pl := #[(0, 1), (1, 1), (2, 1), (3, 1)]) (by kernel_rfl) (.cons rfl rfl (.d _) rfl rfl rfl (.cons rfl rfl (.d _) rfl rfl rfl (.cons rfl rfl (.d _) rfl rfl rfl (.cons rfl rfl (.d _) rfl rfl rfl .nil)))) rfl) rfl)) ?_
  refine dr_nam (d := 9) (v := .pt 104 0) (m := 104) (nw := [(104, .bx 27 ([.fl (.string (⟨#[]⟩)), .fl (.string (⟨#[]⟩)), .fl (.int .i64 0), .fl (.slice none 0 0)]))]) rfl (og rfl (of_eff (s_alloc 104 rfl ti27 (by kernel_rfl) rfl) rfl)) ?_
  refine dr_sto (nw := [(104, .bx 27 ((eFil (Fil.mk fr p.name p.out l))))]) rfl (og rfl (of_eff (s_store rfl rfl ti27 rfl rfl rfl rfl rfl rfl) rfl)) ?_
  refine dr_done rfl (by kernel_rfl) (by kernel_rfl) ?_
  refine a_rseq ?_
  refine rg_put (d := 20) (v := .d (.ag (eFil (Fil.mk fr p.name p.out l)))) rfl (og rfl (of_eff (s_load_pts rfl Try.underlying27 rfl ti27 rfl rfl rfl rfl) rfl)) ?_
  refine rg_put (d := 21) (v := .d (.fl (.int .i64 ((ckF (f0 p fr l)))))) rfl (og rfl (op_call rfl Try.func21 nm21 rfl (.cons rfl (.d _) .nil) (ckR (f0 p fr l) hkk) rfl)) ?_
  refine rg_put (d := 10) (v := .d (.fl (.int .i64 ((ckF (f0 p fr l)))))) rfl (og rfl (op_assign rfl rfl rfl)) ?_
  refine rg_done rfl ?_
  refine a_seq ?_
  refine a_rseq ?_
  refine rg_put (d := 22) (v := .d (.fl (.int .i64 ((ckF (f0 p fr l)))))) rfl (og rfl (op_move rfl rfl rfl)) ?_
  refine rg_put (d := 23) (v := .d (.fl (.bool (((ckF (f0 p fr l)) != 0))))) rfl (og rfl (op_bin rfl rfl rfl (b_neq _ _ _ _) rfl)) ?_
  refine rg_done rfl ?_
  refine a_cond rfl (fun h1 => ?_) (fun h1 => ?_)
  · skip
    have h2 := t_bne h1
    refine a_rseq ?_
    refine rg_put (d := 24) (v := .d (.ag (ePt p))) rfl (og rfl (of_eff (s_load_pts rfl Try.underlying25 rfl ti25 rfl rfl rfl rfl) rfl)) ?_
    refine rg_put (d := 25) (v := .d (.ag [.fl (.string (⟨#[]⟩)), .fl (.string (⟨#[]⟩)), .fl (.int .i64 0), .fl (.slice none 0 0)])) rfl (og rfl (of_eff (op_build rfl Try.underlying27 ti27 rfl (by kernel_rfl) (by kernel_rfl) (pl := #[(0, 1), (1, 1), (2, 1), (3, 1)]) (by kernel_rfl) .nil rfl) rfl)) ?_
    refine rg_put (d := 26) (v := .d (.fl (.int .i64 ((ckF (f0 p fr l)))))) rfl (og rfl (op_move rfl rfl rfl)) ?_
    refine rg_sto (nw := [(102, .bx 25 (ePt p))]) rfl (og rfl (of_eff (s_store rfl rfl ti25 rfl rfl rfl rfl rfl rfl) rfl)) ?_
    refine rg_sto (nw := [(103, .bx 27 ([.fl (.string (⟨#[]⟩)), .fl (.string (⟨#[]⟩)), .fl (.int .i64 0), .fl (.slice none 0 0)]))]) rfl (og rfl (of_eff (s_store rfl rfl ti27 rfl rfl rfl rfl rfl rfl) rfl)) ?_
    refine rg_put (d := 8) (v := .d (.fl (.int .i64 ((ckF (f0 p fr l)))))) rfl (og rfl (op_assign rfl rfl rfl)) ?_
    refine rg_done rfl ?_
    refine a_ret ?_
    show ∃ ds, ResL _ _ _ ds ∧ RV.of ds = _
    refine ⟨[.ag [.fl (.string p.name), .fl (.int .i64 p.out), .fl (.int .i64 p.inn), .sl 4 (List.map eFil p.wait), .sl 5 (List.map eRec p.ours), .sl 5 (List.map eRec p.theirs)], .ag [.fl (.string (⟨#[]⟩)), .fl (.string (⟨#[]⟩)), .fl (.int .i64 0), .sl 5 (List.map eRec [])], .fl (.int .i64 ((ckF (f0 p fr l))))], (.cons (.cellT rfl rfl Try.underlying25 rfl ti25 rfl (Cv.ag (xs := [.fl (.string p.name), .fl (.int .i64 p.out), .fl (.int .i64 p.inn), .sl 4 (List.map eFil p.wait), .sl 5 (List.map eRec p.ours), .sl 5 (List.map eRec p.theirs)]) (ys := [.fl (.string p.name), .fl (.int .i64 p.out), .fl (.int .i64 p.inn), .sl 4 (List.map eFil p.wait), .sl 5 (List.map eRec p.ours), .sl 5 (List.map eRec p.theirs)]) ⟨Cv.refl _, Cv.refl _, Cv.refl _, Cv.refl _, Cv.refl _, Cv.refl _, trivial⟩)) (.cons (.cellT rfl rfl Try.underlying27 rfl ti27 rfl (Cv.ag (xs := [.fl (.string (⟨#[]⟩)), .fl (.string (⟨#[]⟩)), .fl (.int .i64 0), .fl (.slice none 0 0)]) (ys := [.fl (.string (⟨#[]⟩)), .fl (.string (⟨#[]⟩)), .fl (.int .i64 0), .sl 5 (List.map eRec [])]) ⟨Cv.refl _, Cv.refl _, Cv.refl _, Cv.nil _, trivial⟩)) (.cons (.tmp rfl (.d _)) .nil))), ?_⟩
    obtain ⟨hu1, hu2, hu3⟩ := sd_a h1
    rw [hu1, hu2, hu3]; rfl
  · skip
    have h3 := f_bne h1
    refine a_skip ?_
    show A _ _ _ _ _ _ _
    refine a_seq ?_
    refine a_rseq ?_
    have hpw := hp.w
    have hpo := hp.o
    refine rg_put (d := 27) (v := .pt 101 3) rfl (og rfl (of_eff (s_field_pt rfl Try.underlying25 rfl ti22 rfl rfl rfl) rfl)) ?_
    refine rg_put (d := 28) (v := .d (.sl 4 (List.map eFil p.wait))) rfl (og rfl (op_load_pt rfl Try.underlying22 rfl rfl rfl rfl rfl)) ?_
    refine rg_put (d := 29) (v := .d (.fl (.int .i64 (p.wait.length : Int)))) rfl (og rfl (s_len rfl Try.underlying22 rfl rfl)) ?_
    refine rg_put (d := 30) (v := .d (.fl (.bool ((decide (1024 ≤ (p.wait.length : Int))))))) rfl (og rfl (op_bin rfl rfl rfl (b_geq _ _ _ _) rfl)) ?_
    refine rg_put (d := 31) (v := .d (.fl (.bool ((decide (1024 ≤ (p.wait.length : Int))))))) rfl (og rfl (op_move rfl rfl rfl)) ?_
    rcases fot ((decide (1024 ≤ (p.wait.length : Int)))) with h4 | h4
    · skip
      have h5 := f_dec h4
      refine rg_put (d := 32) (v := .pt 101 4) rfl (oy rfl rfl rfl h4 (of_eff (s_field_pt rfl Try.underlying25 rfl ti23 rfl rfl rfl) rfl)) ?_
      refine rg_put (d := 33) (v := .d (.sl 5 (List.map eRec p.ours))) rfl (oy rfl rfl rfl h4 (op_load_pt rfl Try.underlying23 rfl rfl rfl rfl rfl)) ?_
      refine rg_put (d := 34) (v := .d (.fl (.int .i64 (p.ours.length : Int)))) rfl (oy rfl rfl rfl h4 (s_len rfl Try.underlying23 rfl rfl)) ?_
      refine rg_put (d := 35) (v := .d (.sl 5 (List.map eRec l))) rfl (oy rfl rfl rfl h4 (op_move rfl rfl rfl)) ?_
      refine rg_put (d := 36) (v := .d (.fl (.int .i64 (l.length : Int)))) rfl (oy rfl rfl rfl h4 (s_len rfl Try.underlying23 rfl rfl)) ?_
      refine rg_put (d := 37) (v := .d (.fl (.int .i64 (((p.ours.length : Int) + (l.length : Int)))))) rfl (oy rfl rfl rfl h4 (op_bin rfl rfl rfl (fun x y w => b_add64 _ _ _ x y w (by omega)) rfl)) ?_
      refine rg_put (d := 38) (v := .d (.fl (.bool ((decide (1024 < ((p.ours.length : Int) + (l.length : Int)))))))) rfl (oy rfl rfl rfl h4 (op_bin rfl rfl rfl (b_gtr _ _ _ _) rfl)) ?_
      refine rg_put (d := 39) (v := .d (.fl (.bool ((decide (1024 < ((p.ours.length : Int) + (l.length : Int)))))))) rfl (og rfl (op_pick rfl rfl (by rw [h4]; rfl) rfl)) ?_
      refine rg_done rfl ?_
      refine a_cond rfl (fun h6 => ?_) (fun h6 => ?_)
      · skip
        have h7 := t_dec h6
        refine a_rseq ?_
        refine rg_put (d := 40) (v := .d (.ag (ePt p))) rfl (og rfl (of_eff (s_load_pts rfl Try.underlying25 rfl ti25 rfl rfl rfl rfl) rfl)) ?_
        refine rg_put (d := 41) (v := .d (.ag [.fl (.string (⟨#[]⟩)), .fl (.string (⟨#[]⟩)), .fl (.int .i64 0), .fl (.slice none 0 0)])) rfl (og rfl (of_eff (op_build rfl Try.underlying27 ti27 rfl (by kernel_rfl) (by kernel_rfl) (pl := #[(0, 1), (1, 1), (2, 1), (3, 1)]) (by kernel_rfl) .nil rfl) rfl)) ?_
        refine rg_sto (nw := [(102, .bx 25 (ePt p))]) rfl (og rfl (of_eff (s_store rfl rfl ti25 rfl rfl rfl rfl rfl rfl) rfl)) ?_
        refine rg_sto (nw := [(103, .bx 27 ([.fl (.string (⟨#[]⟩)), .fl (.string (⟨#[]⟩)), .fl (.int .i64 0), .fl (.slice none 0 0)]))]) rfl (og rfl (of_eff (s_store rfl rfl ti27 rfl rfl rfl rfl rfl rfl) rfl)) ?_
        refine rg_put (d := 8) (v := .d (.fl (.int .i64 3))) rfl (og rfl (op_assign rfl rfl rfl)) ?_
        refine rg_done rfl ?_
        refine a_ret ?_
        show ∃ ds, ResL _ _ _ ds ∧ RV.of ds = _
        refine ⟨[.ag [.fl (.string p.name), .fl (.int .i64 p.out), .fl (.int .i64 p.inn), .sl 4 (List.map eFil p.wait), .sl 5 (List.map eRec p.ours), .sl 5 (List.map eRec p.theirs)], .ag [.fl (.string (⟨#[]⟩)), .fl (.string (⟨#[]⟩)), .fl (.int .i64 0), .sl 5 (List.map eRec [])], .fl (.int .i64 3)], (.cons (.cellT rfl rfl Try.underlying25 rfl ti25 rfl (Cv.ag (xs := [.fl (.string p.name), .fl (.int .i64 p.out), .fl (.int .i64 p.inn), .sl 4 (List.map eFil p.wait), .sl 5 (List.map eRec p.ours), .sl 5 (List.map eRec p.theirs)]) (ys := [.fl (.string p.name), .fl (.int .i64 p.out), .fl (.int .i64 p.inn), .sl 4 (List.map eFil p.wait), .sl 5 (List.map eRec p.ours), .sl 5 (List.map eRec p.theirs)]) ⟨Cv.refl _, Cv.refl _, Cv.refl _, Cv.refl _, Cv.refl _, Cv.refl _, trivial⟩)) (.cons (.cellT rfl rfl Try.underlying27 rfl ti27 rfl (Cv.ag (xs := [.fl (.string (⟨#[]⟩)), .fl (.string (⟨#[]⟩)), .fl (.int .i64 0), .fl (.slice none 0 0)]) (ys := [.fl (.string (⟨#[]⟩)), .fl (.string (⟨#[]⟩)), .fl (.int .i64 0), .sl 5 (List.map eRec [])]) ⟨Cv.refl _, Cv.refl _, Cv.refl _, Cv.nil _, trivial⟩)) (.cons (.tmp rfl (.d _)) .nil))), ?_⟩
        have htb : tooB p l = true := by unfold tooB; simp only [h1, h4, h6, Bool.true_or, Bool.false_or, Bool.or_true, Bool.or_false, Bool.not_true, Bool.not_false, cond_true, cond_false, Bool.true_and, Bool.false_and, Bool.and_true, Bool.and_false] <;> rfl
        obtain ⟨hu1, hu2, hu3⟩ := sd_b h1 htb
        rw [hu1, hu2, hu3]; rfl
      · skip
        have h8 := f_dec h6
        refine a_skip ?_
        show A _ _ _ _ _ _ _
        refine a_rseq ?_
        refine rg_put (d := 42) (v := .d (.ag (ePt p))) rfl (og rfl (of_eff (s_load_pts rfl Try.underlying25 rfl ti25 rfl rfl rfl rfl) rfl)) ?_
        refine rg_nam (d := 43) (v := .ow 105) (m := 105) (nw := [(105, .sv [.dv (.fl (.string p.name)), .dv (.fl (.int .i64 p.out)), .dv (.fl (.int .i64 p.inn)), .ow 27 4 (List.map eFil p.wait), .ow 48 5 (List.map eRec p.ours), .ow 48 5 (List.map eRec p.theirs)])]) rfl (og rfl (of_eff (op_callO 105 rfl Try.func22 nm22 rfl (.cons rfl (.d _) .nil) (copO p hp) rfl) rfl)) rfl ?_
        refine rg_nam (d := 11) (v := .pt 106 0) (m := 106) (nw := [(106, .bx 25 ([.fl (.string (⟨#[]⟩)), .fl (.int .i64 0), .fl (.int .i64 0), .fl (.slice none 0 0), .fl (.slice none 0 0), .fl (.slice none 0 0)]))]) rfl (og rfl (of_eff (s_alloc 106 rfl ti25 (by kernel_rfl) rfl) rfl)) rfl ?_
        refine rg_imp (imp_bt 106 rfl) ?_
        refine rg_sto (nw := [(106, .bt 25 [.dv (.fl (.string p.name)), .dv (.fl (.int .i64 p.out)), .dv (.fl (.int .i64 p.inn)), .ow 27 4 (List.map eFil p.wait), .ow 48 5 (List.map eRec p.ours), .ow 48 5 (List.map eRec p.theirs)]), (105, .no)]) rfl (og rfl (of_eff (op_store_bt rfl rfl ti25 rfl rfl rfl (.sv rfl) rfl rfl rfl) rfl)) ?_
        refine rg_done rfl ?_
        refine a_rseq ?_
        obtain ⟨⟨hs1, hs2⟩, hs3⟩ := ck_0 (f := f0 p fr l) (f_bne h1)
        have hs1 : 1 ≤ p.out := hs1
        have hs2 : p.out ≤ 2147483648 := hs2
        refine rg_put (d := 44) (v := .pt 101 1) rfl (og rfl (of_eff (s_field_pt rfl Try.underlying25 rfl ti3 rfl rfl rfl) rfl)) ?_
        refine rg_put (d := 45) (v := .d (.fl (.int .i64 p.out))) rfl (og rfl (op_load_pt rfl Try.underlying3 rfl rfl rfl rfl rfl)) ?_
        refine rg_put (d := 46) (v := .d (.fl (.int .i64 (p.out + 1)))) rfl (og rfl (op_bin rfl rfl rfl (fun x y w => b_add64 _ _ _ x y w (by omega)) rfl)) ?_
        refine rg_put (d := 47) (v := .pt 106 1) rfl (og rfl (of_eff (s_field_pt rfl Try.underlying25 rfl ti3 rfl rfl rfl) rfl)) ?_
        refine rg_sto (nw := [(106, .bt 25 [.dv (.fl (.string p.name)), .dv (.fl (.int .i64 (p.out + 1))), .dv (.fl (.int .i64 p.inn)), .ow 27 4 (List.map eFil p.wait), .ow 48 5 (List.map eRec p.ours), .ow 48 5 (List.map eRec p.theirs)])]) rfl (og rfl (of_eff (op_store_bt rfl rfl ti3 rfl rfl rfl (.d rfl) rfl rfl rfl) rfl)) ?_
        refine rg_done rfl ?_
        refine a_dseq (by kernel_rfl) ?_
        refine dr_put (d := 48) (v := .pt 106 3) rfl (og rfl (of_eff (s_field_pt rfl Try.underlying25 rfl ti22 rfl rfl rfl) rfl)) ?_
        refine dr_nam (d := 49) (v := .ow 107) (m := 107) (nw := [(107, .tr 27 4 (tD eFil p.wait)), (106, .bt 25 [.dv (.fl (.string p.name)), .dv (.fl (.int .i64 (p.out + 1))), .dv (.fl (.int .i64 p.inn)), .un, .ow 48 5 (List.map eRec p.ours), .ow 48 5 (List.map eRec p.theirs)])]) rfl (og rfl (of_eff (op_takeBt 107 rfl Try.underlying22 rfl rfl rfl rfl rfl rfl) rfl)) ?_
        refine dr_put (d := 50) (v := .d (.ag (eFil (Fil.mk fr p.name p.out l)))) rfl (og rfl (of_eff (s_load_pts rfl Try.underlying27 rfl ti27 rfl rfl rfl rfl) rfl)) ?_
        refine dr_put (d := 51) (v := .d (.sl 4 (List.map eFil [(Fil.mk fr p.name p.out l)]))) rfl (og rfl (of_eff (op_slices rfl Try.underlying22 ti27 rfl rfl rfl (by kernel_rfl) (xs := [.ag (eFil (Fil.mk fr p.name p.out l))]) rfl rfl (.cons rfl rfl (.d _) rfl rfl rfl .nil) rfl) rfl)) ?_
        refine dr_put (d := 52) (v := .d (.sl 4 (List.map eFil [f0 p fr l]))) rfl (og rfl (op_call rfl Try.func26 nm26 rfl (.cons rfl (.d _) .nil) (filD [f0 p fr l] (by simp) (fun x hx => by rw [List.mem_singleton] at hx; rw [hx]; exact hl)) rfl)) ?_
        refine dr_nam (d := 53) (v := .ow 108) (m := 108) (nw := [(108, .tr 27 4 (tD eFil (p.wait ++ [f0 p fr l]))), (107, .no)]) rfl (og rfl (of_eff (s_append_td 108 rfl Try.underlying22 ti27 rfl rfl rfl rfl rfl (.d _) (by first | omega | (simp only [List.length_append, List.length_cons, List.length_nil]; omega) | (simp only [List.length_take, List.length_drop]; omega)) rfl) rfl)) ?_
        refine dr_put (d := 54) (v := .pt 106 3) rfl (og rfl (of_eff (s_field_pt rfl Try.underlying25 rfl ti22 rfl rfl rfl) rfl)) ?_
        refine dr_sto (nw := [(106, .bt 25 [.dv (.fl (.string p.name)), .dv (.fl (.int .i64 (p.out + 1))), .dv (.fl (.int .i64 p.inn)), .ow 27 4 (List.map eFil (p.wait ++ [f0 p fr l])), .ow 48 5 (List.map eRec p.ours), .ow 48 5 (List.map eRec p.theirs)]), (108, .no)]) rfl (og rfl (of_eff (op_store_bt rfl rfl ti22 rfl rfl rfl (.tr rfl) rfl rfl rfl) rfl)) ?_
        refine dr_done rfl (by kernel_rfl) (by kernel_rfl) ?_
        refine a_rseq ?_
        refine rg_put (d := 55) (v := .pt 106 4) rfl (og rfl (of_eff (s_field_pt rfl Try.underlying25 rfl ti23 rfl rfl rfl) rfl)) ?_
        refine rg_nam (d := 56) (v := .ow 109) (m := 109) (nw := [(109, .tr 48 5 (tD eRec p.ours)), (106, .bt 25 [.dv (.fl (.string p.name)), .dv (.fl (.int .i64 (p.out + 1))), .dv (.fl (.int .i64 p.inn)), .ow 27 4 (List.map eFil (p.wait ++ [f0 p fr l])), .un, .ow 48 5 (List.map eRec p.theirs)])]) rfl (og rfl (of_eff (op_takeBt 109 rfl Try.underlying23 rfl rfl rfl rfl rfl rfl) rfl)) rfl ?_
        refine rg_put (d := 57) (v := .d (.sl 5 (List.map eRec l))) rfl (og rfl (op_move rfl rfl rfl)) ?_
        refine rg_nam (d := 58) (v := .ow 110) (m := 110) (nw := [(110, .tr 48 5 (tD eRec (p.ours ++ l))), (109, .no)]) rfl (og rfl (of_eff (s_append_td 110 rfl Try.underlying23 ti48 rfl rfl rfl rfl rfl (.d _) (by first | omega | (simp only [List.length_append, List.length_cons, List.length_nil]; omega) | (simp only [List.length_take, List.length_drop]; omega)) rfl) rfl)) rfl ?_
        refine rg_put (d := 59) (v := .pt 106 4) rfl (og rfl (of_eff (s_field_pt rfl Try.underlying25 rfl ti23 rfl rfl rfl) rfl)) ?_
        refine rg_sto (nw := [(106, .bt 25 [.dv (.fl (.string p.name)), .dv (.fl (.int .i64 (p.out + 1))), .dv (.fl (.int .i64 p.inn)), .ow 27 4 (List.map eFil (p.wait ++ [f0 p fr l])), .ow 48 5 (List.map eRec (p.ours ++ l)), .ow 48 5 (List.map eRec p.theirs)]), (110, .no)]) rfl (og rfl (of_eff (op_store_bt rfl rfl ti23 rfl rfl rfl (.tr rfl) rfl rfl rfl) rfl)) ?_
        refine rg_imp (imp_leakBt 106 (ds := [.fl (.string p.name), .fl (.int .i64 (p.out + 1)), .fl (.int .i64 p.inn), .sl 4 (List.map eFil (p.wait ++ [f0 p fr l])), .sl 5 (List.map eRec (p.ours ++ l)), .sl 5 (List.map eRec p.theirs)]) rfl rfl rfl) ?_
        refine rg_done rfl ?_
        refine a_dseq (by kernel_rfl) ?_
        refine dr_put (d := 60) (v := .d (.ag (ePt ((Ptn.mk p.name (p.out + 1) p.inn (p.wait ++ [f0 p fr l]) (p.ours ++ l) p.theirs))))) rfl (og rfl (of_eff (s_load_pts rfl Try.underlying25 rfl ti25 rfl rfl rfl rfl) rfl)) ?_
        refine dr_put (d := 61) (v := .d (.ag (eFil (Fil.mk fr p.name p.out l)))) rfl (og rfl (of_eff (s_load_pts rfl Try.underlying27 rfl ti27 rfl rfl rfl rfl) rfl)) ?_
        refine dr_sto (nw := [(102, .bx 25 ((ePt ((Ptn.mk p.name (p.out + 1) p.inn (p.wait ++ [f0 p fr l]) (p.ours ++ l) p.theirs)))))]) rfl (og rfl (of_eff (s_store rfl rfl ti25 rfl rfl rfl rfl rfl rfl) rfl)) ?_
        refine dr_sto (nw := [(103, .bx 27 ((eFil (Fil.mk fr p.name p.out l))))]) rfl (og rfl (of_eff (s_store rfl rfl ti27 rfl rfl rfl rfl rfl rfl) rfl)) ?_
        refine dr_put (d := 8) (v := .d (.fl (.int .i64 0))) rfl (og rfl (op_assign rfl rfl rfl)) ?_
        refine dr_done rfl (by kernel_rfl) (by kernel_rfl) ?_
        refine a_ret ?_
        show ∃ ds, ResL _ _ _ ds ∧ RV.of ds = _
        refine ⟨[.ag [.fl (.string ((Ptn.mk p.name (p.out + 1) p.inn (p.wait ++ [f0 p fr l]) (p.ours ++ l) p.theirs).name)), .fl (.int .i64 ((Ptn.mk p.name (p.out + 1) p.inn (p.wait ++ [f0 p fr l]) (p.ours ++ l) p.theirs).out)), .fl (.int .i64 ((Ptn.mk p.name (p.out + 1) p.inn (p.wait ++ [f0 p fr l]) (p.ours ++ l) p.theirs).inn)), .sl 4 (List.map eFil ((Ptn.mk p.name (p.out + 1) p.inn (p.wait ++ [f0 p fr l]) (p.ours ++ l) p.theirs).wait)), .sl 5 (List.map eRec ((Ptn.mk p.name (p.out + 1) p.inn (p.wait ++ [f0 p fr l]) (p.ours ++ l) p.theirs).ours)), .sl 5 (List.map eRec ((Ptn.mk p.name (p.out + 1) p.inn (p.wait ++ [f0 p fr l]) (p.ours ++ l) p.theirs).theirs))], .ag [.fl (.string ((Fil.mk fr p.name p.out l).fr)), .fl (.string ((Fil.mk fr p.name p.out l).to)), .fl (.int .i64 ((Fil.mk fr p.name p.out l).seq)), .sl 5 (List.map eRec ((Fil.mk fr p.name p.out l).recs))], .fl (.int .i64 0)], (.cons (.cellT rfl rfl Try.underlying25 rfl ti25 rfl (Cv.ag (xs := [.fl (.string ((Ptn.mk p.name (p.out + 1) p.inn (p.wait ++ [f0 p fr l]) (p.ours ++ l) p.theirs).name)), .fl (.int .i64 ((Ptn.mk p.name (p.out + 1) p.inn (p.wait ++ [f0 p fr l]) (p.ours ++ l) p.theirs).out)), .fl (.int .i64 ((Ptn.mk p.name (p.out + 1) p.inn (p.wait ++ [f0 p fr l]) (p.ours ++ l) p.theirs).inn)), .sl 4 (List.map eFil ((Ptn.mk p.name (p.out + 1) p.inn (p.wait ++ [f0 p fr l]) (p.ours ++ l) p.theirs).wait)), .sl 5 (List.map eRec ((Ptn.mk p.name (p.out + 1) p.inn (p.wait ++ [f0 p fr l]) (p.ours ++ l) p.theirs).ours)), .sl 5 (List.map eRec ((Ptn.mk p.name (p.out + 1) p.inn (p.wait ++ [f0 p fr l]) (p.ours ++ l) p.theirs).theirs))]) (ys := [.fl (.string ((Ptn.mk p.name (p.out + 1) p.inn (p.wait ++ [f0 p fr l]) (p.ours ++ l) p.theirs).name)), .fl (.int .i64 ((Ptn.mk p.name (p.out + 1) p.inn (p.wait ++ [f0 p fr l]) (p.ours ++ l) p.theirs).out)), .fl (.int .i64 ((Ptn.mk p.name (p.out + 1) p.inn (p.wait ++ [f0 p fr l]) (p.ours ++ l) p.theirs).inn)), .sl 4 (List.map eFil ((Ptn.mk p.name (p.out + 1) p.inn (p.wait ++ [f0 p fr l]) (p.ours ++ l) p.theirs).wait)), .sl 5 (List.map eRec ((Ptn.mk p.name (p.out + 1) p.inn (p.wait ++ [f0 p fr l]) (p.ours ++ l) p.theirs).ours)), .sl 5 (List.map eRec ((Ptn.mk p.name (p.out + 1) p.inn (p.wait ++ [f0 p fr l]) (p.ours ++ l) p.theirs).theirs))]) ⟨Cv.refl _, Cv.refl _, Cv.refl _, Cv.refl _, Cv.refl _, Cv.refl _, trivial⟩)) (.cons (.cellT rfl rfl Try.underlying27 rfl ti27 rfl (Cv.ag (xs := [.fl (.string ((Fil.mk fr p.name p.out l).fr)), .fl (.string ((Fil.mk fr p.name p.out l).to)), .fl (.int .i64 ((Fil.mk fr p.name p.out l).seq)), .sl 5 (List.map eRec ((Fil.mk fr p.name p.out l).recs))]) (ys := [.fl (.string ((Fil.mk fr p.name p.out l).fr)), .fl (.string ((Fil.mk fr p.name p.out l).to)), .fl (.int .i64 ((Fil.mk fr p.name p.out l).seq)), .sl 5 (List.map eRec ((Fil.mk fr p.name p.out l).recs))]) ⟨Cv.refl _, Cv.refl _, Cv.refl _, Cv.refl _, trivial⟩)) (.cons (.tmp rfl (.d _)) .nil))), ?_⟩
        have htb : tooB p l = false := by unfold tooB; simp only [h1, h4, h6, Bool.true_or, Bool.false_or, Bool.or_true, Bool.or_false, Bool.not_true, Bool.not_false, cond_true, cond_false, Bool.true_and, Bool.false_and, Bool.and_true, Bool.and_false] <;> rfl
        obtain ⟨hu1, hu2, hu3⟩ := sd_c h1 htb
        rw [hu1, hu2, hu3]; rfl
    · skip
      have h9 := t_dec h4
      refine rg_put (d := 32) (v := .d (.fl undef)) rfl (on rfl rfl rfl h4) ?_
      refine rg_put (d := 33) (v := .d (.fl undef)) rfl (on rfl rfl rfl h4) ?_
      refine rg_put (d := 34) (v := .d (.fl undef)) rfl (on rfl rfl rfl h4) ?_
      refine rg_put (d := 35) (v := .d (.fl undef)) rfl (on rfl rfl rfl h4) ?_
      refine rg_put (d := 36) (v := .d (.fl undef)) rfl (on rfl rfl rfl h4) ?_
      refine rg_put (d := 37) (v := .d (.fl undef)) rfl (on rfl rfl rfl h4) ?_
      refine rg_put (d := 38) (v := .d (.fl undef)) rfl (on rfl rfl rfl h4) ?_
      refine rg_put (d := 39) (v := .d (.fl (.bool true))) rfl (og rfl (op_pick rfl rfl (by rw [h4]; rfl) rfl)) ?_
      refine rg_done rfl ?_
      refine a_condK rfl rfl ?_
      refine a_rseq ?_
      refine rg_put (d := 40) (v := .d (.ag (ePt p))) rfl (og rfl (of_eff (s_load_pts rfl Try.underlying25 rfl ti25 rfl rfl rfl rfl) rfl)) ?_
      refine rg_put (d := 41) (v := .d (.ag [.fl (.string (⟨#[]⟩)), .fl (.string (⟨#[]⟩)), .fl (.int .i64 0), .fl (.slice none 0 0)])) rfl (og rfl (of_eff (op_build rfl Try.underlying27 ti27 rfl (by kernel_rfl) (by kernel_rfl) (pl := #[(0, 1), (1, 1), (2, 1), (3, 1)]) (by kernel_rfl) .nil rfl) rfl)) ?_
      refine rg_sto (nw := [(102, .bx 25 (ePt p))]) rfl (og rfl (of_eff (s_store rfl rfl ti25 rfl rfl rfl rfl rfl rfl) rfl)) ?_
      refine rg_sto (nw := [(103, .bx 27 ([.fl (.string (⟨#[]⟩)), .fl (.string (⟨#[]⟩)), .fl (.int .i64 0), .fl (.slice none 0 0)]))]) rfl (og rfl (of_eff (s_store rfl rfl ti27 rfl rfl rfl rfl rfl rfl) rfl)) ?_
      refine rg_put (d := 8) (v := .d (.fl (.int .i64 3))) rfl (og rfl (op_assign rfl rfl rfl)) ?_
      refine rg_done rfl ?_
      refine a_ret ?_
      show ∃ ds, ResL _ _ _ ds ∧ RV.of ds = _
      refine ⟨[.ag [.fl (.string p.name), .fl (.int .i64 p.out), .fl (.int .i64 p.inn), .sl 4 (List.map eFil p.wait), .sl 5 (List.map eRec p.ours), .sl 5 (List.map eRec p.theirs)], .ag [.fl (.string (⟨#[]⟩)), .fl (.string (⟨#[]⟩)), .fl (.int .i64 0), .sl 5 (List.map eRec [])], .fl (.int .i64 3)], (.cons (.cellT rfl rfl Try.underlying25 rfl ti25 rfl (Cv.ag (xs := [.fl (.string p.name), .fl (.int .i64 p.out), .fl (.int .i64 p.inn), .sl 4 (List.map eFil p.wait), .sl 5 (List.map eRec p.ours), .sl 5 (List.map eRec p.theirs)]) (ys := [.fl (.string p.name), .fl (.int .i64 p.out), .fl (.int .i64 p.inn), .sl 4 (List.map eFil p.wait), .sl 5 (List.map eRec p.ours), .sl 5 (List.map eRec p.theirs)]) ⟨Cv.refl _, Cv.refl _, Cv.refl _, Cv.refl _, Cv.refl _, Cv.refl _, trivial⟩)) (.cons (.cellT rfl rfl Try.underlying27 rfl ti27 rfl (Cv.ag (xs := [.fl (.string (⟨#[]⟩)), .fl (.string (⟨#[]⟩)), .fl (.int .i64 0), .fl (.slice none 0 0)]) (ys := [.fl (.string (⟨#[]⟩)), .fl (.string (⟨#[]⟩)), .fl (.int .i64 0), .sl 5 (List.map eRec [])]) ⟨Cv.refl _, Cv.refl _, Cv.refl _, Cv.nil _, trivial⟩)) (.cons (.tmp rfl (.d _)) .nil))), ?_⟩
      have htb : tooB p l = true := by unfold tooB; simp only [h1, h4, Bool.true_or, Bool.false_or, Bool.or_true, Bool.or_false, Bool.not_true, Bool.not_false, cond_true, cond_false, Bool.true_and, Bool.false_and, Bool.and_true, Bool.and_false] <;> rfl
      obtain ⟨hu1, hu2, hu3⟩ := sd_b h1 htb
      rw [hu1, hu2, hu3]; rfl
set_option maxHeartbeats 4000000 in
set_option maxRecDepth 100000 in
theorem nwC (fr : ByteArray) : Ctr Try.prog 13 [.fl (.string fr)] (.tu [.ag (ePt (nwP fr)), .fl (.int .i64 (nwE fr))]) := by
  refine ctr (n := 10) (rs := #[.cell 2 25, .tmp 3]) (L := [(0, .d (.fl (.string fr)))]) Try.func13 rfl rfl rfl rfl rfl (fun w0 U0 => ?_)
  refine a_rseq ?_
  refine rg_nam (d := 2) (v := .pt 101 0) (m := 101) (nw := [(101, .bx 25 ([.fl (.string (⟨#[]⟩)), .fl (.int .i64 0), .fl (.int .i64 0), .fl (.slice none 0 0), .fl (.slice none 0 0), .fl (.slice none 0 0)]))]) rfl (og rfl (of_eff (s_alloc 101 rfl ti25 (by kernel_rfl) rfl) rfl)) rfl ?_
  refine rg_put (d := 3) (v := .d (.fl (.int .i64 0))) rfl (og rfl (op_assign rfl rfl rfl)) ?_
  refine rg_done rfl ?_
  refine a_seq ?_
  refine a_rseq ?_
  refine rg_put (d := 4) (v := .d (.fl (.string fr))) rfl (og rfl (op_move rfl rfl rfl)) ?_
  refine rg_put (d := 5) (v := .d (.fl (.bool (Nm.nmB fr)))) rfl (og rfl (op_call rfl Try.func27 nm27 rfl (.cons rfl (.d _) .nil) (namP fr) rfl)) ?_
  refine rg_put (d := 6) (v := .d (.fl (.bool ((!(Nm.nmB fr)))))) rfl (og rfl (op_un rfl rfl (u_not _) rfl)) ?_
  refine rg_done rfl ?_
  refine a_cond rfl (fun h1 => ?_) (fun h1 => ?_)
  · skip
    have h2 := t_not h1
    refine a_rseq ?_
    refine rg_put (d := 7) (v := .d (.ag [.fl (.string (⟨#[]⟩)), .fl (.int .i64 0), .fl (.int .i64 0), .fl (.slice none 0 0), .fl (.slice none 0 0), .fl (.slice none 0 0)])) rfl (og rfl (of_eff (op_build rfl Try.underlying25 ti25 rfl (by kernel_rfl) (by kernel_rfl) (pl := #[(0, 1), (1, 1), (2, 1), (3, 1), (4, 1), (5, 1)]) (by kernel_rfl) .nil rfl) rfl)) ?_
    refine rg_sto (nw := [(101, .bx 25 ([.fl (.string (⟨#[]⟩)), .fl (.int .i64 0), .fl (.int .i64 0), .fl (.slice none 0 0), .fl (.slice none 0 0), .fl (.slice none 0 0)]))]) rfl (og rfl (of_eff (s_store rfl rfl ti25 rfl rfl rfl rfl rfl rfl) rfl)) ?_
    refine rg_put (d := 3) (v := .d (.fl (.int .i64 6))) rfl (og rfl (op_assign rfl rfl rfl)) ?_
    refine rg_done rfl ?_
    refine a_ret ?_
    show ∃ ds, ResL _ _ _ ds ∧ RV.of ds = _
    refine ⟨[.ag [.fl (.string (⟨#[]⟩)), .fl (.int .i64 0), .fl (.int .i64 0), .sl 4 (List.map eFil []), .sl 5 (List.map eRec []), .sl 5 (List.map eRec [])], .fl (.int .i64 6)], (.cons (.cellT rfl rfl Try.underlying25 rfl ti25 rfl (Cv.ag (xs := [.fl (.string (⟨#[]⟩)), .fl (.int .i64 0), .fl (.int .i64 0), .fl (.slice none 0 0), .fl (.slice none 0 0), .fl (.slice none 0 0)]) (ys := [.fl (.string (⟨#[]⟩)), .fl (.int .i64 0), .fl (.int .i64 0), .sl 4 (List.map eFil []), .sl 5 (List.map eRec []), .sl 5 (List.map eRec [])]) ⟨Cv.refl _, Cv.refl _, Cv.refl _, Cv.nil _, Cv.nil _, Cv.nil _, trivial⟩)) (.cons (.tmp rfl (.d _)) .nil)), ?_⟩
    obtain ⟨hu1, hu2⟩ := nw_f h2
    rw [hu1, hu2]; rfl
  · skip
    have h3 := f_not h1
    refine a_skip ?_
    show A _ _ _ _ _ _ _
    refine a_rseq ?_
    refine rg_put (d := 8) (v := .d (.fl (.string fr))) rfl (og rfl (op_move rfl rfl rfl)) ?_
    refine rg_put (d := 9) (v := .d (.ag [.fl (.string fr), .fl (.int .i64 1), .fl (.int .i64 1), .fl (.slice none 0 0), .fl (.slice none 0 0), .fl (.slice none 0 0)])) rfl (og rfl (of_eff (op_build rfl Try.underlying25 ti25 rfl (by kernel_rfl) (by kernel_rfl) (pl := #[(0, 1), (1, 1), (2, 1), (3, 1), (4, 1), (5, 1)]) (by kernel_rfl) (.cons rfl rfl (.d _) rfl rfl rfl (.cons rfl rfl (.d _) rfl rfl rfl (.cons rfl rfl (.d _) rfl rfl rfl .nil))) rfl) rfl)) ?_
    refine rg_sto (nw := [(101, .bx 25 [.fl (.string fr), .fl (.int .i64 1), .fl (.int .i64 1), .fl (.slice none 0 0), .fl (.slice none 0 0), .fl (.slice none 0 0)])]) rfl (og rfl (of_eff (s_store rfl rfl ti25 rfl rfl rfl rfl rfl rfl) rfl)) ?_
    refine rg_put (d := 3) (v := .d (.fl (.int .i64 0))) rfl (og rfl (op_assign rfl rfl rfl)) ?_
    refine rg_done rfl ?_
    refine a_ret ?_
    show ∃ ds, ResL _ _ _ ds ∧ RV.of ds = _
    refine ⟨[.ag [.fl (.string fr), .fl (.int .i64 1), .fl (.int .i64 1), .sl 4 (List.map eFil []), .sl 5 (List.map eRec []), .sl 5 (List.map eRec [])], .fl (.int .i64 0)], (.cons (.cellT rfl rfl Try.underlying25 rfl ti25 rfl (Cv.ag (xs := [.fl (.string fr), .fl (.int .i64 1), .fl (.int .i64 1), .fl (.slice none 0 0), .fl (.slice none 0 0), .fl (.slice none 0 0)]) (ys := [.fl (.string fr), .fl (.int .i64 1), .fl (.int .i64 1), .sl 4 (List.map eFil []), .sl 5 (List.map eRec []), .sl 5 (List.map eRec [])]) ⟨Cv.refl _, Cv.refl _, Cv.refl _, Cv.nil _, Cv.nil _, Cv.nil _, trivial⟩)) (.cons (.tmp rfl (.d _)) .nil)), ?_⟩
    obtain ⟨hu1, hu2⟩ := nw_t h3
    rw [hu1, hu2]; rfl
set_option maxHeartbeats 4000000 in
set_option maxRecDepth 100000 in
theorem nwR (fr : ByteArray) : Ctr Try.prog 14 [.fl (.string fr)] (.tu [.ag (ePt (nwP fr)), .fl (.int .i64 (nwE fr))]) := by
  refine ctr (n := 10) (rs := #[.cell 2 25, .tmp 3]) (L := [(0, .d (.fl (.string fr)))]) Try.func14 rfl rfl rfl rfl rfl (fun w0 U0 => ?_)
  refine a_rseq ?_
  refine rg_nam (d := 2) (v := .pt 101 0) (m := 101) (nw := [(101, .bx 25 ([.fl (.string (⟨#[]⟩)), .fl (.int .i64 0), .fl (.int .i64 0), .fl (.slice none 0 0), .fl (.slice none 0 0), .fl (.slice none 0 0)]))]) rfl (og rfl (of_eff (s_alloc 101 rfl ti25 (by kernel_rfl) rfl) rfl)) rfl ?_
  refine rg_put (d := 3) (v := .d (.fl (.int .i64 0))) rfl (og rfl (op_assign rfl rfl rfl)) ?_
  refine rg_done rfl ?_
  refine a_seq ?_
  refine a_rseq ?_
  refine rg_put (d := 4) (v := .d (.fl (.string fr))) rfl (og rfl (op_move rfl rfl rfl)) ?_
  refine rg_put (d := 5) (v := .d (.fl (.bool (Nm.nmB fr)))) rfl (og rfl (op_call rfl Try.func28 nm28 rfl (.cons rfl (.d _) .nil) (namR fr) rfl)) ?_
  refine rg_put (d := 6) (v := .d (.fl (.bool ((!(Nm.nmB fr)))))) rfl (og rfl (op_un rfl rfl (u_not _) rfl)) ?_
  refine rg_done rfl ?_
  refine a_cond rfl (fun h1 => ?_) (fun h1 => ?_)
  · skip
    have h2 := t_not h1
    refine a_rseq ?_
    refine rg_put (d := 7) (v := .d (.ag [.fl (.string (⟨#[]⟩)), .fl (.int .i64 0), .fl (.int .i64 0), .fl (.slice none 0 0), .fl (.slice none 0 0), .fl (.slice none 0 0)])) rfl (og rfl (of_eff (op_build rfl Try.underlying25 ti25 rfl (by kernel_rfl) (by kernel_rfl) (pl := #[(0, 1), (1, 1), (2, 1), (3, 1), (4, 1), (5, 1)]) (by kernel_rfl) .nil rfl) rfl)) ?_
    refine rg_sto (nw := [(101, .bx 25 ([.fl (.string (⟨#[]⟩)), .fl (.int .i64 0), .fl (.int .i64 0), .fl (.slice none 0 0), .fl (.slice none 0 0), .fl (.slice none 0 0)]))]) rfl (og rfl (of_eff (s_store rfl rfl ti25 rfl rfl rfl rfl rfl rfl) rfl)) ?_
    refine rg_put (d := 3) (v := .d (.fl (.int .i64 6))) rfl (og rfl (op_assign rfl rfl rfl)) ?_
    refine rg_done rfl ?_
    refine a_ret ?_
    show ∃ ds, ResL _ _ _ ds ∧ RV.of ds = _
    refine ⟨[.ag [.fl (.string (⟨#[]⟩)), .fl (.int .i64 0), .fl (.int .i64 0), .sl 4 (List.map eFil []), .sl 5 (List.map eRec []), .sl 5 (List.map eRec [])], .fl (.int .i64 6)], (.cons (.cellT rfl rfl Try.underlying25 rfl ti25 rfl (Cv.ag (xs := [.fl (.string (⟨#[]⟩)), .fl (.int .i64 0), .fl (.int .i64 0), .fl (.slice none 0 0), .fl (.slice none 0 0), .fl (.slice none 0 0)]) (ys := [.fl (.string (⟨#[]⟩)), .fl (.int .i64 0), .fl (.int .i64 0), .sl 4 (List.map eFil []), .sl 5 (List.map eRec []), .sl 5 (List.map eRec [])]) ⟨Cv.refl _, Cv.refl _, Cv.refl _, Cv.nil _, Cv.nil _, Cv.nil _, trivial⟩)) (.cons (.tmp rfl (.d _)) .nil)), ?_⟩
    obtain ⟨hu1, hu2⟩ := nw_f h2
    rw [hu1, hu2]; rfl
  · skip
    have h3 := f_not h1
    refine a_skip ?_
    show A _ _ _ _ _ _ _
    refine a_rseq ?_
    refine rg_put (d := 8) (v := .d (.fl (.string fr))) rfl (og rfl (op_move rfl rfl rfl)) ?_
    refine rg_put (d := 9) (v := .d (.ag [.fl (.string fr), .fl (.int .i64 1), .fl (.int .i64 1), .fl (.slice none 0 0), .fl (.slice none 0 0), .fl (.slice none 0 0)])) rfl (og rfl (of_eff (op_build rfl Try.underlying25 ti25 rfl (by kernel_rfl) (by kernel_rfl) (pl := #[(0, 1), (1, 1), (2, 1), (3, 1), (4, 1), (5, 1)]) (by kernel_rfl) (.cons rfl rfl (.d _) rfl rfl rfl (.cons rfl rfl (.d _) rfl rfl rfl (.cons rfl rfl (.d _) rfl rfl rfl .nil))) rfl) rfl)) ?_
    refine rg_sto (nw := [(101, .bx 25 [.fl (.string fr), .fl (.int .i64 1), .fl (.int .i64 1), .fl (.slice none 0 0), .fl (.slice none 0 0), .fl (.slice none 0 0)])]) rfl (og rfl (of_eff (s_store rfl rfl ti25 rfl rfl rfl rfl rfl rfl) rfl)) ?_
    refine rg_put (d := 3) (v := .d (.fl (.int .i64 0))) rfl (og rfl (op_assign rfl rfl rfl)) ?_
    refine rg_done rfl ?_
    refine a_ret ?_
    show ∃ ds, ResL _ _ _ ds ∧ RV.of ds = _
    refine ⟨[.ag [.fl (.string fr), .fl (.int .i64 1), .fl (.int .i64 1), .sl 4 (List.map eFil []), .sl 5 (List.map eRec []), .sl 5 (List.map eRec [])], .fl (.int .i64 0)], (.cons (.cellT rfl rfl Try.underlying25 rfl ti25 rfl (Cv.ag (xs := [.fl (.string fr), .fl (.int .i64 1), .fl (.int .i64 1), .fl (.slice none 0 0), .fl (.slice none 0 0), .fl (.slice none 0 0)]) (ys := [.fl (.string fr), .fl (.int .i64 1), .fl (.int .i64 1), .sl 4 (List.map eFil []), .sl 5 (List.map eRec []), .sl 5 (List.map eRec [])]) ⟨Cv.refl _, Cv.refl _, Cv.refl _, Cv.nil _, Cv.nil _, Cv.nil _, trivial⟩)) (.cons (.tmp rfl (.d _)) .nil)), ?_⟩
    obtain ⟨hu1, hu2⟩ := nw_t h3
    rw [hu1, hu2]; rfl
set_option maxHeartbeats 4000000 in
set_option maxRecDepth 100000 in
theorem rsC (p : Ptn) (hp : okP p) : Ctr Try.prog 16 [.ag (ePt p)] (.d (.sl 4 (List.map eFil p.wait))) := by
  refine ctr (n := 6) (rs := #[.tmp 2]) (L := [(0, .d (.ag (ePt p)))]) Try.func16 rfl rfl rfl rfl rfl (fun w0 U0 => ?_)
  refine a_rseq ?_
  refine rg_nam (d := 1) (v := .pt 101 0) (m := 101) (nw := [(101, .bx 25 (ePt p))]) rfl (og rfl (of_eff (op_box 101 rfl rfl rfl rfl) rfl)) rfl ?_
  refine rg_put (d := 2) (v := .d (.fl (.slice none 0 0))) rfl (og rfl (op_assign rfl rfl rfl)) ?_
  refine rg_done rfl ?_
  refine a_rseq ?_
  refine rg_put (d := 3) (v := .pt 101 3) rfl (og rfl (of_eff (s_field_pt rfl Try.underlying25 rfl ti22 rfl rfl rfl) rfl)) ?_
  refine rg_put (d := 4) (v := .d (.sl 4 (List.map eFil p.wait))) rfl (og rfl (op_load_pt rfl Try.underlying22 rfl rfl rfl rfl rfl)) ?_
  refine rg_nam (d := 5) (v := .ow 102) (m := 102) (nw := [(102, .tr 27 4 (tD eFil p.wait))]) rfl (og rfl (of_eff (op_callO 102 rfl Try.func29 nm29 rfl (.cons rfl (.d _) .nil) (frsF p.wait (by have := hp.w; omega) hp.r) rfl) rfl)) rfl ?_
  refine rg_put (d := 2) (v := .ow 102) rfl (og rfl (op_assign rfl rfl rfl)) ?_
  refine rg_done rfl ?_
  refine a_imp (imp_leakT 2 102 rfl rfl) ?_
  refine a_ret ?_
  show ∃ ds, ResL _ _ _ ds ∧ RV.of ds = _
  refine ⟨[.sl 4 (List.map eFil p.wait)], (.cons (.tmp rfl (.d _)) .nil), ?_⟩
  rfl
end Go.Proofs.Ythfdopaefdmdiaa.Wk
