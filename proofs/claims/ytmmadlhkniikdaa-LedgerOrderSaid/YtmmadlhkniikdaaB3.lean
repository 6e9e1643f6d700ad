/- Copies, searches, parts and equality, both sides. Condition: few entries, amounts that fit. -/
import Derived.Test.YtmmadlhkniikdaaB2
set_option linter.unusedSimpArgs false
set_option linter.unusedVariables false
namespace Go.Proofs.Ytmmadlhkniikdaa.Wk
open Go Go.RowKit Go.Proofs.Ytmmadlhkniikdaa.Av
theorem flt_y {α : Type} [Inhabited α] {p : α → Bool} {l : List α} {k : Nat} (hk : k < l.length) (h : p (ix l k) = true) : (l.take k).filter p ++ [ix l k] = (l.take (k + 1)).filter p := by rw [take_ix hk, List.filter_append, List.filter_cons_of_pos h]; rfl
theorem flt_n {α : Type} [Inhabited α] {p : α → Bool} {l : List α} {k : Nat} (hk : k < l.length) (h : p (ix l k) = false) : (l.take k).filter p = (l.take (k + 1)).filter p := by rw [take_ix hk, List.filter_append, List.filter_cons_of_neg (by rw [h]; simp)]; simp
theorem flt_len {α : Type} (l : List α) (p : α → Bool) (k : Nat) : ((l.take k).filter p).length ≤ l.length := by
  have := List.length_filter_le p (l.take k)
  rw [List.length_take] at this; omega
def uq (t : Int) (e : En) : Bool := decide (e.time < t)
def kq (s : ByteArray) (e : En) : Bool := sEq e.key s
def fdE (l : List En) (s : ByteArray) : En × Bool := match l.find? (kq s) with
  | some e => (e, true)
  | none => (⟨⟨#[]⟩, 0, []⟩, false)
theorem fd_at {l : List En} {s : ByteArray} {k : Nat} (hk : k < l.length) (hq : ∀ q, q < k → sEq (ix l q).key s = false) (h : sEq (ix l k).key s = true) : fdE l s = (ix l k, true) := by unfold fdE; rw [fnd_at (p := kq s) hk hq h]
theorem fd_no {l : List En} {s : ByteArray} (hq : ∀ q, q < l.length → sEq (ix l q).key s = false) : fdE l s = (⟨⟨#[]⟩, 0, []⟩, false) := by unfold fdE; rw [fnd_no (p := kq s) hq]
theorem fd_2 (l : List En) (s : ByteArray) : (fdE l s).2 = l.any (kq s) := by
  unfold fdE
  cases h : l.find? (kq s) with
  | some e =>
    have := List.find?_some h
    exact (List.any_eq_true.2 ⟨e, List.mem_of_find?_eq_some h, this⟩).symm
  | none =>
    rw [List.find?_eq_none] at h
    exact (List.any_eq_false.2 h).symm

set_option maxHeartbeats 4000000 in
set_option maxRecDepth 100000 in
theorem cloC (l : List Po) (hl : l.length ≤ 1000000) : Ctr Try.prog 43 [.sl 2 (List.map ePo l)] (.d (.sl 2 (List.map ePo l))) := by
  refine ctr (n := 8) (rs := #[.tmp 2]) (L := [(0, .d (.sl 2 (List.map ePo l)))]) Try.func43 rfl rfl rfl rfl rfl (fun w0 U0 => ?_)
  refine a_rseq ?_
  refine rg_put (d := 2) (v := .d (.fl (.slice none 0 0))) rfl (og rfl (op_assign rfl rfl rfl)) ?_
  refine rg_done rfl ?_
  refine a_seq ?_
  refine a_rseq ?_
  refine rg_put (d := 3) (v := .d (.sl 2 (List.map ePo l))) rfl (og rfl (op_move rfl rfl rfl)) ?_
  refine rg_isnil rfl rfl rfl Try.underlying22 rfl rfl rfl (fun bh1 nh1 => ?_)
  refine rg_done rfl ?_
  refine a_cond rfl (fun h2 => ?_) (fun h2 => ?_)
  · skip
    refine a_rseq ?_
    refine rg_put (d := 2) (v := .d (.fl (.slice none 0 0))) rfl (og rfl (op_assign rfl rfl rfl)) ?_
    refine rg_done rfl ?_
    have hnil : l = [] := by simpa using nh1 h2
    subst hnil
    refine a_ret ?_
    show ∃ ds, ResL _ _ _ ds ∧ RV.of ds = _
    refine ⟨[.sl 2 (List.map ePo [])], (.cons (.tmp rfl (.cv (Cv.nil _))) .nil), ?_⟩
    rfl
  · skip
    refine a_skip ?_
    show A _ _ _ _ _ _ _
    refine a_rseq ?_
    refine rg_nam (d := 5) (v := .ow 101) (m := 101) (nw := [(101, .tr 31 2 (tD ePo []))]) rfl (og rfl (of_eff (op_slice0 101 rfl Try.underlying22 ti31 rfl) rfl)) rfl ?_
    refine rg_put (d := 6) (v := .d (.sl 2 (List.map ePo l))) rfl (og rfl (op_move rfl rfl rfl)) ?_
    refine rg_nam (d := 7) (v := .ow 102) (m := 102) (nw := [(102, .tr 31 2 (tD ePo ([] ++ l))), (101, .no)]) rfl (og rfl (of_eff (s_append_td 102 rfl Try.underlying22 ti31 rfl rfl rfl rfl rfl (.d _) (by simp only [List.length_nil]; omega) rfl) rfl)) rfl ?_
    refine rg_put (d := 2) (v := .ow 102) rfl (og rfl (op_assign rfl rfl rfl)) ?_
    refine rg_done rfl ?_
    refine a_imp (imp_leakT 2 102 rfl rfl) ?_
    refine a_ret ?_
    show ∃ ds, ResL _ _ _ ds ∧ RV.of ds = _
    refine ⟨[.sl 2 (List.map ePo ([] ++ l))], (.cons (.tmp rfl (.d _)) .nil), ?_⟩
    rfl
set_option maxHeartbeats 4000000 in
set_option maxRecDepth 100000 in
theorem freC (e : En) (he : e.posts.length ≤ 1000000) : Ctr Try.prog 37 [.ag (eEn e)] (.d (.ag (eEn e))) := by
  refine ctr (n := 8) (rs := #[.cell 2 24]) (L := [(0, .d (.ag (eEn e)))]) Try.func37 rfl rfl rfl rfl rfl (fun w0 U0 => ?_)
  refine a_rseq ?_
  refine rg_nam (d := 1) (v := .pt 101 0) (m := 101) (nw := [(101, .bx 24 (eEn e))]) rfl (og rfl (of_eff (op_box 101 rfl rfl rfl rfl) rfl)) rfl ?_
  refine rg_nam (d := 2) (v := .pt 102 0) (m := 102) (nw := [(102, .bx 24 ([.fl (.string (⟨#[]⟩)), .fl (.int .i64 0), .fl (.slice none 0 0)]))]) rfl (og rfl (of_eff (s_alloc 102 rfl ti24 (by kernel_rfl) rfl) rfl)) rfl ?_
  refine rg_done rfl ?_
  refine a_rseq ?_
  refine rg_put (d := 3) (v := .pt 101 2) rfl (og rfl (of_eff (s_field_pt rfl Try.underlying24 rfl ti22 rfl rfl rfl) rfl)) ?_
  refine rg_put (d := 4) (v := .d (.sl 2 (List.map ePo e.posts))) rfl (og rfl (op_load_pt rfl Try.underlying22 rfl rfl rfl rfl rfl)) ?_
  refine rg_put (d := 5) (v := .d (.sl 2 (List.map ePo e.posts))) rfl (og rfl (op_call rfl Try.func43 nm43 rfl (.cons rfl (.d _) .nil) (cloC e.posts (by omega)) rfl)) ?_
  refine rg_put (d := 6) (v := .pt 101 2) rfl (og rfl (of_eff (s_field_pt rfl Try.underlying24 rfl ti22 rfl rfl rfl) rfl)) ?_
  refine rg_sto (nw := [(101, .bx 24 [.fl (.string e.key), .fl (.int .i64 e.time), .sl 2 (List.map ePo e.posts)])]) rfl (og rfl (of_eff (s_store rfl rfl ti22 rfl rfl rfl rfl rfl rfl) rfl)) ?_
  refine rg_done rfl ?_
  refine a_rseq ?_
  refine rg_put (d := 7) (v := .d (.ag (eEn e))) rfl (og rfl (of_eff (s_load_pts rfl Try.underlying24 rfl ti24 rfl rfl rfl rfl) rfl)) ?_
  refine rg_sto (nw := [(102, .bx 24 (eEn e))]) rfl (og rfl (of_eff (s_store rfl rfl ti24 rfl rfl rfl rfl rfl rfl) rfl)) ?_
  refine rg_done rfl ?_
  refine a_ret ?_
  show ∃ ds, ResL _ _ _ ds ∧ RV.of ds = _
  refine ⟨[.ag [.fl (.string e.key), .fl (.int .i64 e.time), .sl 2 (List.map ePo e.posts)]], (.cons (.cellT rfl rfl Try.underlying24 rfl ti24 rfl (Cv.ag (xs := [.fl (.string e.key), .fl (.int .i64 e.time), .sl 2 (List.map ePo e.posts)]) (ys := [.fl (.string e.key), .fl (.int .i64 e.time), .sl 2 (List.map ePo e.posts)]) ⟨Cv.refl _, Cv.refl _, Cv.refl _, trivial⟩)) .nil), ?_⟩
  rfl
set_option maxHeartbeats 4000000 in
set_option maxRecDepth 100000 in
theorem copR (e : En) (he : e.posts.length ≤ 1000000) : Ctr Try.prog 38 [.ag (eEn e)] (.d (.ag (eEn e))) := by
  refine ctr (n := 13) (rs := #[.cell 2 24]) (L := [(0, .d (.ag (eEn e)))]) Try.func38 rfl rfl rfl rfl rfl (fun w0 U0 => ?_)
  refine a_rseq ?_
  refine rg_nam (d := 1) (v := .pt 101 0) (m := 101) (nw := [(101, .bx 24 (eEn e))]) rfl (og rfl (of_eff (op_box 101 rfl rfl rfl rfl) rfl)) rfl ?_
  refine rg_nam (d := 2) (v := .pt 102 0) (m := 102) (nw := [(102, .bx 24 ([.fl (.string (⟨#[]⟩)), .fl (.int .i64 0), .fl (.slice none 0 0)]))]) rfl (og rfl (of_eff (s_alloc 102 rfl ti24 (by kernel_rfl) rfl) rfl)) rfl ?_
  refine rg_done rfl ?_
  refine a_rseq ?_
  refine rg_put (d := 3) (v := .d (.fl (.slice none 0 0))) rfl (og rfl (op_assign rfl rfl rfl)) ?_
  refine rg_done rfl ?_
  refine a_dseq (by kernel_rfl) ?_
  refine dr_put (d := 4) (v := .pt 101 0) rfl (og rfl (of_eff (s_field_pt rfl Try.underlying24 rfl ti9 rfl rfl rfl) rfl)) ?_
  refine dr_put (d := 5) (v := .d (.fl (.string e.key))) rfl (og rfl (op_load_pt rfl Try.underlying9 rfl rfl rfl rfl rfl)) ?_
  refine dr_put (d := 6) (v := .pt 101 1) rfl (og rfl (of_eff (s_field_pt rfl Try.underlying24 rfl ti3 rfl rfl rfl) rfl)) ?_
  refine dr_put (d := 7) (v := .d (.fl (.int .i64 e.time))) rfl (og rfl (op_load_pt rfl Try.underlying3 rfl rfl rfl rfl rfl)) ?_
  refine dr_put (d := 8) (v := .d (.fl (.slice none 0 0))) rfl (og rfl (op_move rfl rfl rfl)) ?_
  refine dr_put (d := 9) (v := .pt 101 2) rfl (og rfl (of_eff (s_field_pt rfl Try.underlying24 rfl ti22 rfl rfl rfl) rfl)) ?_
  refine dr_put (d := 10) (v := .d (.sl 2 (List.map ePo e.posts))) rfl (og rfl (op_load_pt rfl Try.underlying22 rfl rfl rfl rfl rfl)) ?_
  refine dr_nam (d := 11) (v := .ow 103) (m := 103) (nw := [(103, .ow 31 2 (List.map ePo e.posts))]) rfl (og rfl (s_append_nil 103 rfl Try.underlying22 ti31 rfl rfl rfl rfl (.d _) (by first | omega | (simp only [List.length_append, List.length_cons, List.length_nil]; omega)) rfl)) ?_
  refine dr_put (d := 12) (v := .d (.ag (eEn e))) rfl (og rfl (of_eff (op_build rfl Try.underlying24 ti24 rfl (by kernel_rfl) (by kernel_rfl) (pl := #[(0, 1), (1, 1), (2, 1)]) (by kernel_rfl) (.cons rfl rfl (.d _) rfl rfl rfl (.cons rfl rfl (.d _) rfl rfl rfl (.cons rfl rfl (.ow rfl) rfl rfl rfl .nil))) rfl) rfl)) ?_
  refine dr_sto (nw := [(102, .bx 24 (eEn e))]) rfl (og rfl (of_eff (s_store rfl rfl ti24 rfl rfl rfl rfl rfl rfl) rfl)) ?_
  refine dr_done rfl (by kernel_rfl) (by kernel_rfl) ?_
  refine a_ret ?_
  show ∃ ds, ResL _ _ _ ds ∧ RV.of ds = _
  refine ⟨[.ag [.fl (.string e.key), .fl (.int .i64 e.time), .sl 2 (List.map ePo e.posts)]], (.cons (.cellT rfl rfl Try.underlying24 rfl ti24 rfl (Cv.ag (xs := [.fl (.string e.key), .fl (.int .i64 e.time), .sl 2 (List.map ePo e.posts)]) (ys := [.fl (.string e.key), .fl (.int .i64 e.time), .sl 2 (List.map ePo e.posts)]) ⟨Cv.refl _, Cv.refl _, Cv.refl _, trivial⟩)) .nil), ?_⟩
  rfl
set_option maxHeartbeats 4000000 in
set_option maxRecDepth 100000 in
theorem finC (x : Led) (s : ByteArray) (hx : okL x.ents) : Ctr Try.prog 18 [.ag (eLe x), .fl (.string s)] (.tu [.ag (eEn (fdE x.ents s).1), .fl (.bool (fdE x.ents s).2)]) := by
  refine ctr (n := 23) (rs := #[.cell 4 24, .tmp 5]) (L := [(0, .d (.ag (eLe x))), (1, .d (.fl (.string s)))]) Try.func18 rfl rfl rfl rfl rfl (fun w0 U0 => ?_)
  refine a_rseq ?_
  have hxl := hx.n
  refine rg_nam (d := 2) (v := .pt 101 0) (m := 101) (nw := [(101, .bx 35 (eLe x))]) rfl (og rfl (of_eff (op_box 101 rfl rfl rfl rfl) rfl)) rfl ?_
  refine rg_nam (d := 4) (v := .pt 102 0) (m := 102) (nw := [(102, .bx 24 ([.fl (.string (⟨#[]⟩)), .fl (.int .i64 0), .fl (.slice none 0 0)]))]) rfl (og rfl (of_eff (s_alloc 102 rfl ti24 (by kernel_rfl) rfl) rfl)) rfl ?_
  refine rg_put (d := 5) (v := .d (.fl (.bool false))) rfl (og rfl (op_assign rfl rfl rfl)) ?_
  refine rg_done rfl ?_
  refine a_seq ?_
  refine a_rseq ?_
  refine rg_put (d := 8) (v := .pt 101 0) rfl (og rfl (of_eff (s_field_pt rfl Try.underlying35 rfl ti33 rfl rfl rfl) rfl)) ?_
  refine rg_put (d := 9) (v := .d (.sl 3 (List.map eEn x.ents))) rfl (og rfl (op_load_pt rfl Try.underlying33 rfl rfl rfl rfl rfl)) ?_
  refine rg_put (d := 10) (v := .d (.fl (.int .i64 (x.ents.length : Int)))) rfl (og rfl (s_len rfl Try.underlying33 rfl rfl)) ?_
  refine rg_put (d := 11) (v := .d (.fl (.int .i64 0))) rfl (og rfl (op_move rfl rfl rfl)) ?_
  refine rg_done rfl ?_
  refine a_block ?_
  refine a_loop (ι := Nat) (fun i => SS [(0, .d (.ag (eLe x))), (1, .d (.fl (.string s))), (2, .pt 101 0), (4, .pt 102 0), (9, .d (.sl 3 (List.map eEn x.ents))), (10, .d (.fl (.int .i64 (x.ents.length : Int)))), (11, .d (.fl (.int .i64 (i : Int))))] [(101, .bx 35 (eLe x)), (102, .bx 24 ([.fl (.string (⟨#[]⟩)), .fl (.int .i64 0), .fl (.slice none 0 0)]))]) (fun i => i ≤ x.ents.length ∧ ∀ q, q < i → (sEq (ix x.ents q).key s) = false) (fun i => x.ents.length - i) 0 (⟨by omega, fun q h => by omega⟩) (imp_forget rfl ⟨rfl, rfl, rfl, rfl, rfl, rfl, (by first | rfl | exact ci (by omega) | exact ci (by simp) | exact cd (by simp) | simp), trivial⟩ ⟨rfl, rfl, trivial⟩) (fun i hok => ?_)
  obtain ⟨hki, hq⟩ := hok
  refine a_rseq ?_
  refine rg_put (d := 12) (v := .d (.fl (.bool ((decide ((i : Int) < (x.ents.length : Int))))))) rfl (og rfl (op_bin rfl rfl rfl (b_lss _ _ _ _) rfl)) ?_
  refine rg_done rfl ?_
  refine a_seq ?_
  refine a_cond rfl (fun h1 => ?_) (fun h1 => ?_)
  · skip
    have h2 := t_dec h1
    refine a_skip ?_
    show A _ _ _ _ _ _ _
    refine a_seq ?_
    refine a_block ?_
    refine a_rseq ?_
    refine rg_put (d := 13) (v := .el ((eEn (ix x.ents i)))) rfl (og rfl (s_index rfl Try.underlying33 ti24 rfl rfl (by omega) (row_at (by omega)) rfl)) ?_
    refine rg_put (d := 14) (v := .d (.ag (eEn (ix x.ents i)))) rfl (og rfl (of_eff (s_load_els rfl Try.underlying24 rfl ti24 rfl rfl rfl) rfl)) ?_
    refine rg_nam (d := 7) (v := .pt 103 0) (m := 103) (nw := [(103, .bx 24 ([.fl (.string (⟨#[]⟩)), .fl (.int .i64 0), .fl (.slice none 0 0)]))]) rfl (og rfl (of_eff (s_alloc 103 rfl ti24 (by kernel_rfl) rfl) rfl)) rfl ?_
    refine rg_sto (nw := [(103, .bx 24 ((eEn (ix x.ents i))))]) rfl (og rfl (of_eff (s_store rfl rfl ti24 rfl rfl rfl rfl rfl rfl) rfl)) ?_
    refine rg_done rfl ?_
    refine a_rseq ?_
    have hpe := hx.e _ (ix_mem (by omega : i < x.ents.length))
    refine rg_put (d := 15) (v := .pt 103 0) rfl (og rfl (of_eff (s_field_pt rfl Try.underlying24 rfl ti9 rfl rfl rfl) rfl)) ?_
    refine rg_put (d := 16) (v := .d (.fl (.string ((ix x.ents i).key)))) rfl (og rfl (op_load_pt rfl Try.underlying9 rfl rfl rfl rfl rfl)) ?_
    refine rg_put (d := 17) (v := .d (.fl (.string s))) rfl (og rfl (op_move rfl rfl rfl)) ?_
    refine rg_put (d := 18) (v := .d (.fl (.bool ((sEq ((ix x.ents i).key) s))))) rfl (og rfl (op_bin rfl rfl rfl (b_seq _ _ _) rfl)) ?_
    refine rg_done rfl ?_
    refine a_cond rfl (fun h3 => ?_) (fun h3 => ?_)
    · skip
      refine a_rseq ?_
      refine rg_put (d := 19) (v := .d (.ag (eEn (ix x.ents i)))) rfl (og rfl (of_eff (s_load_pts rfl Try.underlying24 rfl ti24 rfl rfl rfl rfl) rfl)) ?_
      refine rg_put (d := 20) (v := .d (.ag (eEn (ix x.ents i)))) rfl (og rfl (op_call rfl Try.func37 nm37 rfl (.cons rfl (.d _) .nil) (freC (ix x.ents i) (by have := hpe.l; omega)) rfl)) ?_
      refine rg_sto (nw := [(102, .bx 24 ((eEn (ix x.ents i))))]) rfl (og rfl (of_eff (s_store rfl rfl ti24 rfl rfl rfl rfl rfl rfl) rfl)) ?_
      refine rg_put (d := 5) (v := .d (.fl (.bool true))) rfl (og rfl (op_assign rfl rfl rfl)) ?_
      refine rg_done rfl ?_
      refine a_ret ?_
      show ∃ ds, ResL _ _ _ ds ∧ RV.of ds = _
      refine ⟨[.ag [.fl (.string ((ix x.ents i).key)), .fl (.int .i64 ((ix x.ents i).time)), .sl 2 (List.map ePo ((ix x.ents i).posts))], .fl (.bool true)], (.cons (.cellT rfl rfl Try.underlying24 rfl ti24 rfl (Cv.ag (xs := [.fl (.string ((ix x.ents i).key)), .fl (.int .i64 ((ix x.ents i).time)), .sl 2 (List.map ePo ((ix x.ents i).posts))]) (ys := [.fl (.string ((ix x.ents i).key)), .fl (.int .i64 ((ix x.ents i).time)), .sl 2 (List.map ePo ((ix x.ents i).posts))]) ⟨Cv.refl _, Cv.refl _, Cv.refl _, trivial⟩)) (.cons (.tmp rfl (.d _)) .nil)), ?_⟩
      rw [fd_at (by omega) hq h3]; rfl
    · skip
      refine a_skip ?_
      show A _ _ _ _ _ _ _
      refine a_region ?_
      refine rg_put (d := 21) (v := .d (.fl (.int .i64 (((i : Int) + 1))))) rfl (og rfl (op_bin rfl rfl rfl (fun x y w => b_add64 _ _ _ x y w (by omega)) rfl)) ?_
      refine rg_put (d := 11) (v := .d (.fl (.int .i64 (((i : Int) + 1))))) rfl (og rfl (op_move rfl rfl rfl)) ?_
      refine rg_done rfl ?_
      have hx : (sEq (ix x.ents i).key s) = false := h3
      show ∃ i, _ ∧ _ ∧ Imp _ _ _ _ _
      refine ⟨i + 1, ⟨by omega, fun q h => (Nat.lt_succ_iff_lt_or_eq.1 h).elim (hq q) (fun e => by rw [e]; exact hx)⟩, by omega, imp_forget rfl ⟨rfl, rfl, rfl, rfl, rfl, rfl, (by first | rfl | exact ci (by omega) | exact ci (by simp) | exact cd (by simp) | simp), trivial⟩ ⟨rfl, rfl, trivial⟩⟩
  · skip
    have h4 := f_dec h1
    refine a_exit ?_
    show A _ _ _ _ _ _ _
    refine a_rseq ?_
    refine rg_put (d := 22) (v := .d (.ag [.fl (.string (⟨#[]⟩)), .fl (.int .i64 0), .fl (.slice none 0 0)])) rfl (og rfl (of_eff (op_build rfl Try.underlying24 ti24 rfl (by kernel_rfl) (by kernel_rfl) (pl := #[(0, 1), (1, 1), (2, 1)]) (by kernel_rfl) .nil rfl) rfl)) ?_
    refine rg_sto (nw := [(102, .bx 24 ([.fl (.string (⟨#[]⟩)), .fl (.int .i64 0), .fl (.slice none 0 0)]))]) rfl (og rfl (of_eff (s_store rfl rfl ti24 rfl rfl rfl rfl rfl rfl) rfl)) ?_
    refine rg_put (d := 5) (v := .d (.fl (.bool false))) rfl (og rfl (op_assign rfl rfl rfl)) ?_
    refine rg_done rfl ?_
    refine a_ret ?_
    show ∃ ds, ResL _ _ _ ds ∧ RV.of ds = _
    refine ⟨[.ag [.fl (.string (⟨#[]⟩)), .fl (.int .i64 0), .sl 2 (List.map ePo [])], .fl (.bool false)], (.cons (.cellT rfl rfl Try.underlying24 rfl ti24 rfl (Cv.ag (xs := [.fl (.string (⟨#[]⟩)), .fl (.int .i64 0), .fl (.slice none 0 0)]) (ys := [.fl (.string (⟨#[]⟩)), .fl (.int .i64 0), .sl 2 (List.map ePo [])]) ⟨Cv.refl _, Cv.refl _, Cv.nil _, trivial⟩)) (.cons (.tmp rfl (.d _)) .nil)), ?_⟩
    rw [fd_no (fun q h => hq q (by omega))]; rfl
set_option maxHeartbeats 4000000 in
set_option maxRecDepth 100000 in
theorem finR (x : Led) (s : ByteArray) (hx : okL x.ents) : Ctr Try.prog 19 [.ag (eLe x), .fl (.string s)] (.tu [.ag (eEn (fdE x.ents s).1), .fl (.bool (fdE x.ents s).2)]) := by
  refine ctr (n := 29) (rs := #[.cell 4 24, .tmp 5]) (L := [(0, .d (.ag (eLe x))), (1, .d (.fl (.string s)))]) Try.func19 rfl rfl rfl rfl rfl (fun w0 U0 => ?_)
  refine a_rseq ?_
  have hxl := hx.n
  refine rg_nam (d := 2) (v := .pt 101 0) (m := 101) (nw := [(101, .bx 35 (eLe x))]) rfl (og rfl (of_eff (op_box 101 rfl rfl rfl rfl) rfl)) rfl ?_
  refine rg_nam (d := 4) (v := .pt 102 0) (m := 102) (nw := [(102, .bx 24 ([.fl (.string (⟨#[]⟩)), .fl (.int .i64 0), .fl (.slice none 0 0)]))]) rfl (og rfl (of_eff (s_alloc 102 rfl ti24 (by kernel_rfl) rfl) rfl)) rfl ?_
  refine rg_put (d := 5) (v := .d (.fl (.bool false))) rfl (og rfl (op_assign rfl rfl rfl)) ?_
  refine rg_done rfl ?_
  refine a_seq ?_
  refine a_rseq ?_
  refine rg_put (d := 6) (v := .d (.fl (.int .i64 0))) rfl (og rfl (op_assign rfl rfl rfl)) ?_
  refine rg_done rfl ?_
  refine a_block ?_
  refine a_loop (ι := Nat) (fun i => SS [(0, .d (.ag (eLe x))), (1, .d (.fl (.string s))), (2, .pt 101 0), (4, .pt 102 0), (6, .d (.fl (.int .i64 (i : Int))))] [(101, .bx 35 (eLe x)), (102, .bx 24 ([.fl (.string (⟨#[]⟩)), .fl (.int .i64 0), .fl (.slice none 0 0)]))]) (fun i => i ≤ x.ents.length ∧ ∀ q, q < i → (sEq (ix x.ents q).key s) = false) (fun i => x.ents.length - i) 0 (⟨by omega, fun q h => by omega⟩) (imp_forget rfl ⟨rfl, rfl, rfl, rfl, (by first | rfl | exact ci (by omega) | exact ci (by simp) | exact cd (by simp) | simp), trivial⟩ ⟨rfl, rfl, trivial⟩) (fun i hok => ?_)
  obtain ⟨hki, hq⟩ := hok
  refine a_seq ?_
  refine a_rseq ?_
  refine rg_put (d := 7) (v := .d (.fl (.int .i64 (i : Int)))) rfl (og rfl (op_move rfl rfl rfl)) ?_
  refine rg_put (d := 8) (v := .pt 101 0) rfl (og rfl (of_eff (s_field_pt rfl Try.underlying35 rfl ti33 rfl rfl rfl) rfl)) ?_
  refine rg_put (d := 9) (v := .d (.sl 3 (List.map eEn x.ents))) rfl (og rfl (op_load_pt rfl Try.underlying33 rfl rfl rfl rfl rfl)) ?_
  refine rg_put (d := 10) (v := .d (.fl (.int .i64 (x.ents.length : Int)))) rfl (og rfl (s_len rfl Try.underlying33 rfl rfl)) ?_
  refine rg_put (d := 11) (v := .d (.fl (.bool ((decide ((i : Int) < (x.ents.length : Int))))))) rfl (og rfl (op_bin rfl rfl rfl (b_lss _ _ _ _) rfl)) ?_
  refine rg_done rfl ?_
  refine a_cond rfl (fun h1 => ?_) (fun h1 => ?_)
  · skip
    have h2 := t_dec h1
    refine a_skip ?_
    show A _ _ _ _ _ _ _
    refine a_seq ?_
    refine a_block ?_
    refine a_rseq ?_
    have hpe := hx.e _ (ix_mem (by omega : i < x.ents.length))
    refine rg_put (d := 14) (v := .pt 101 0) rfl (og rfl (of_eff (s_field_pt rfl Try.underlying35 rfl ti33 rfl rfl rfl) rfl)) ?_
    refine rg_put (d := 15) (v := .d (.sl 3 (List.map eEn x.ents))) rfl (og rfl (op_load_pt rfl Try.underlying33 rfl rfl rfl rfl rfl)) ?_
    refine rg_put (d := 16) (v := .d (.fl (.int .i64 (i : Int)))) rfl (og rfl (op_move rfl rfl rfl)) ?_
    refine rg_put (d := 17) (v := .el ((eEn (ix x.ents i)))) rfl (og rfl (s_index rfl Try.underlying33 ti24 rfl rfl (by omega) (row_at (by omega)) rfl)) ?_
    refine rg_put (d := 18) (v := .el ((List.drop 0 ((eEn (ix x.ents i)))))) rfl (og rfl (of_eff (s_field_el rfl Try.underlying24 rfl ti9 rfl rfl rfl) rfl)) ?_
    refine rg_put (d := 19) (v := .d (.fl (.string ((ix x.ents i).key)))) rfl (og rfl (op_load_el rfl Try.underlying9 rfl rfl rfl rfl)) ?_
    refine rg_put (d := 20) (v := .d (.fl (.string s))) rfl (og rfl (op_move rfl rfl rfl)) ?_
    refine rg_put (d := 21) (v := .d (.fl (.bool ((sEq ((ix x.ents i).key) s))))) rfl (og rfl (op_bin rfl rfl rfl (b_seq _ _ _) rfl)) ?_
    refine rg_done rfl ?_
    refine a_cond rfl (fun h3 => ?_) (fun h3 => ?_)
    · skip
      refine a_rseq ?_
      refine rg_put (d := 22) (v := .pt 101 0) rfl (og rfl (of_eff (s_field_pt rfl Try.underlying35 rfl ti33 rfl rfl rfl) rfl)) ?_
      refine rg_put (d := 23) (v := .d (.sl 3 (List.map eEn x.ents))) rfl (og rfl (op_load_pt rfl Try.underlying33 rfl rfl rfl rfl rfl)) ?_
      refine rg_put (d := 24) (v := .d (.fl (.int .i64 (i : Int)))) rfl (og rfl (op_move rfl rfl rfl)) ?_
      refine rg_put (d := 25) (v := .el ((eEn (ix x.ents i)))) rfl (og rfl (s_index rfl Try.underlying33 ti24 rfl rfl (by omega) (row_at (by omega)) rfl)) ?_
      refine rg_put (d := 26) (v := .d (.ag (eEn (ix x.ents i)))) rfl (og rfl (of_eff (s_load_els rfl Try.underlying24 rfl ti24 rfl rfl rfl) rfl)) ?_
      refine rg_put (d := 27) (v := .d (.ag (eEn (ix x.ents i)))) rfl (og rfl (op_call rfl Try.func38 nm38 rfl (.cons rfl (.d _) .nil) (copR (ix x.ents i) (by have := hpe.l; omega)) rfl)) ?_
      refine rg_sto (nw := [(102, .bx 24 ((eEn (ix x.ents i))))]) rfl (og rfl (of_eff (s_store rfl rfl ti24 rfl rfl rfl rfl rfl rfl) rfl)) ?_
      refine rg_put (d := 5) (v := .d (.fl (.bool true))) rfl (og rfl (op_assign rfl rfl rfl)) ?_
      refine rg_done rfl ?_
      refine a_ret ?_
      show ∃ ds, ResL _ _ _ ds ∧ RV.of ds = _
      refine ⟨[.ag [.fl (.string ((ix x.ents i).key)), .fl (.int .i64 ((ix x.ents i).time)), .sl 2 (List.map ePo ((ix x.ents i).posts))], .fl (.bool true)], (.cons (.cellT rfl rfl Try.underlying24 rfl ti24 rfl (Cv.ag (xs := [.fl (.string ((ix x.ents i).key)), .fl (.int .i64 ((ix x.ents i).time)), .sl 2 (List.map ePo ((ix x.ents i).posts))]) (ys := [.fl (.string ((ix x.ents i).key)), .fl (.int .i64 ((ix x.ents i).time)), .sl 2 (List.map ePo ((ix x.ents i).posts))]) ⟨Cv.refl _, Cv.refl _, Cv.refl _, trivial⟩)) (.cons (.tmp rfl (.d _)) .nil)), ?_⟩
      rw [fd_at (by omega) hq h3]; rfl
    · skip
      refine a_skip ?_
      show A _ _ _ _ _ _ _
      refine a_region ?_
      refine rg_put (d := 12) (v := .d (.fl (.int .i64 (i : Int)))) rfl (og rfl (op_move rfl rfl rfl)) ?_
      refine rg_put (d := 13) (v := .d (.fl (.int .i64 (((i : Int) + 1))))) rfl (og rfl (op_bin rfl rfl rfl (fun x y w => b_add64 _ _ _ x y w (by omega)) rfl)) ?_
      refine rg_put (d := 6) (v := .d (.fl (.int .i64 (((i : Int) + 1))))) rfl (og rfl (op_assign rfl rfl rfl)) ?_
      refine rg_done rfl ?_
      have hx : (sEq (ix x.ents i).key s) = false := h3
      show ∃ i, _ ∧ _ ∧ Imp _ _ _ _ _
      refine ⟨i + 1, ⟨by omega, fun q h => (Nat.lt_succ_iff_lt_or_eq.1 h).elim (hq q) (fun e => by rw [e]; exact hx)⟩, by omega, imp_forget rfl ⟨rfl, rfl, rfl, rfl, (by first | rfl | exact ci (by omega) | exact ci (by simp) | exact cd (by simp) | simp), trivial⟩ ⟨rfl, rfl, trivial⟩⟩
  · skip
    have h4 := f_dec h1
    refine a_exit ?_
    show A _ _ _ _ _ _ _
    refine a_rseq ?_
    refine rg_put (d := 28) (v := .d (.ag [.fl (.string (⟨#[]⟩)), .fl (.int .i64 0), .fl (.slice none 0 0)])) rfl (og rfl (of_eff (op_build rfl Try.underlying24 ti24 rfl (by kernel_rfl) (by kernel_rfl) (pl := #[(0, 1), (1, 1), (2, 1)]) (by kernel_rfl) .nil rfl) rfl)) ?_
    refine rg_sto (nw := [(102, .bx 24 ([.fl (.string (⟨#[]⟩)), .fl (.int .i64 0), .fl (.slice none 0 0)]))]) rfl (og rfl (of_eff (s_store rfl rfl ti24 rfl rfl rfl rfl rfl rfl) rfl)) ?_
    refine rg_put (d := 5) (v := .d (.fl (.bool false))) rfl (og rfl (op_assign rfl rfl rfl)) ?_
    refine rg_done rfl ?_
    refine a_ret ?_
    show ∃ ds, ResL _ _ _ ds ∧ RV.of ds = _
    refine ⟨[.ag [.fl (.string (⟨#[]⟩)), .fl (.int .i64 0), .sl 2 (List.map ePo [])], .fl (.bool false)], (.cons (.cellT rfl rfl Try.underlying24 rfl ti24 rfl (Cv.ag (xs := [.fl (.string (⟨#[]⟩)), .fl (.int .i64 0), .fl (.slice none 0 0)]) (ys := [.fl (.string (⟨#[]⟩)), .fl (.int .i64 0), .sl 2 (List.map ePo [])]) ⟨Cv.refl _, Cv.refl _, Cv.nil _, trivial⟩)) (.cons (.tmp rfl (.d _)) .nil)), ?_⟩
    rw [fd_no (fun q h => hq q (by omega))]; rfl
set_option maxHeartbeats 4000000 in
set_option maxRecDepth 100000 in
theorem untC (x : Led) (t : Int) (hx : okL x.ents) : Ctr Try.prog 28 [.ag (eLe x), .fl (.int .i64 t)] (.d (.ag (eLe ⟨x.ents.filter (uq t)⟩))) := by
  refine ctr (n := 28) (rs := #[.cell 4 35]) (L := [(0, .d (.ag (eLe x))), (1, .d (.fl (.int .i64 t)))]) Try.func28 rfl rfl rfl rfl rfl (fun w0 U0 => ?_)
  refine a_rseq ?_
  have hxl := hx.n
  refine rg_nam (d := 2) (v := .pt 101 0) (m := 101) (nw := [(101, .bx 35 (eLe x))]) rfl (og rfl (of_eff (op_box 101 rfl rfl rfl rfl) rfl)) rfl ?_
  refine rg_nam (d := 4) (v := .pt 102 0) (m := 102) (nw := [(102, .bx 35 [.fl (.slice none 0 0)])]) rfl (og rfl (of_eff (s_alloc 102 rfl ti35 (by kernel_rfl) rfl) rfl)) rfl ?_
  refine rg_done rfl ?_
  refine a_rseq ?_
  refine rg_nam (d := 5) (v := .pt 103 0) (m := 103) (nw := [(103, .bx 35 [.fl (.slice none 0 0)])]) rfl (og rfl (of_eff (s_alloc 103 rfl ti35 (by kernel_rfl) rfl) rfl)) rfl ?_
  refine rg_done rfl ?_
  refine a_seq ?_
  refine a_rseq ?_
  refine rg_imp (imp_bt 103 rfl) ?_
  refine rg_imp (imp_btnil 103 0 24 3 rfl rfl) ?_
  refine rg_put (d := 8) (v := .pt 101 0) rfl (og rfl (of_eff (s_field_pt rfl Try.underlying35 rfl ti33 rfl rfl rfl) rfl)) ?_
  refine rg_put (d := 9) (v := .d (.sl 3 (List.map eEn x.ents))) rfl (og rfl (op_load_pt rfl Try.underlying33 rfl rfl rfl rfl rfl)) ?_
  refine rg_put (d := 10) (v := .d (.fl (.int .i64 (x.ents.length : Int)))) rfl (og rfl (s_len rfl Try.underlying33 rfl rfl)) ?_
  refine rg_put (d := 11) (v := .d (.fl (.int .i64 0))) rfl (og rfl (op_move rfl rfl rfl)) ?_
  refine rg_done rfl ?_
  refine a_block ?_
  refine a_loop (ι := Nat) (fun i => SS [(0, .d (.ag (eLe x))), (1, .d (.fl (.int .i64 t))), (2, .pt 101 0), (4, .pt 102 0), (5, .pt 103 0), (9, .d (.sl 3 (List.map eEn x.ents))), (10, .d (.fl (.int .i64 (x.ents.length : Int)))), (11, .d (.fl (.int .i64 (i : Int))))] [(101, .bx 35 (eLe x)), (102, .bx 35 [.fl (.slice none 0 0)]), (103, .bt 35 [.ow 24 3 (List.map eEn (((x.ents.take i).filter (uq t))))])]) (fun i => i ≤ x.ents.length) (fun i => x.ents.length - i) 0 (by omega) (imp_forget rfl ⟨rfl, rfl, rfl, rfl, rfl, rfl, rfl, (by first | rfl | exact ci (by omega) | exact ci (by simp) | exact cd (by simp) | simp), trivial⟩ ⟨rfl, rfl, rfl, trivial⟩) (fun i hok => ?_)
  have hi := hok
  have hfl := flt_len x.ents (uq t) i
  refine a_rseq ?_
  refine rg_put (d := 12) (v := .d (.fl (.bool ((decide ((i : Int) < (x.ents.length : Int))))))) rfl (og rfl (op_bin rfl rfl rfl (b_lss _ _ _ _) rfl)) ?_
  refine rg_done rfl ?_
  refine a_seq ?_
  refine a_cond rfl (fun h1 => ?_) (fun h1 => ?_)
  · skip
    have h2 := t_dec h1
    refine a_skip ?_
    show A _ _ _ _ _ _ _
    refine a_seq ?_
    refine a_block ?_
    refine a_rseq ?_
    have hpe := hx.e _ (ix_mem (by omega : i < x.ents.length))
    refine rg_put (d := 13) (v := .el ((eEn (ix x.ents i)))) rfl (og rfl (s_index rfl Try.underlying33 ti24 rfl rfl (by omega) (row_at (by omega)) rfl)) ?_
    refine rg_put (d := 14) (v := .d (.ag (eEn (ix x.ents i)))) rfl (og rfl (of_eff (s_load_els rfl Try.underlying24 rfl ti24 rfl rfl rfl) rfl)) ?_
    refine rg_nam (d := 7) (v := .pt 104 0) (m := 104) (nw := [(104, .bx 24 ([.fl (.string (⟨#[]⟩)), .fl (.int .i64 0), .fl (.slice none 0 0)]))]) rfl (og rfl (of_eff (s_alloc 104 rfl ti24 (by kernel_rfl) rfl) rfl)) rfl ?_
    refine rg_sto (nw := [(104, .bx 24 ((eEn (ix x.ents i))))]) rfl (og rfl (of_eff (s_store rfl rfl ti24 rfl rfl rfl rfl rfl rfl) rfl)) ?_
    refine rg_done rfl ?_
    refine a_rseq ?_
    refine rg_put (d := 15) (v := .pt 104 1) rfl (og rfl (of_eff (s_field_pt rfl Try.underlying24 rfl ti3 rfl rfl rfl) rfl)) ?_
    refine rg_put (d := 16) (v := .d (.fl (.int .i64 ((ix x.ents i).time)))) rfl (og rfl (op_load_pt rfl Try.underlying3 rfl rfl rfl rfl rfl)) ?_
    refine rg_put (d := 17) (v := .d (.fl (.int .i64 t))) rfl (og rfl (op_move rfl rfl rfl)) ?_
    refine rg_put (d := 18) (v := .d (.fl (.bool ((decide ((ix x.ents i).time < t)))))) rfl (og rfl (op_bin rfl rfl rfl (b_lss _ _ _ _) rfl)) ?_
    refine rg_done rfl ?_
    refine a_cond rfl (fun h3 => ?_) (fun h3 => ?_)
    · skip
      have h4 := t_dec h3
      refine a_draw (by kernel_rfl) ?_
      refine dr_put (d := 19) (v := .pt 103 0) rfl (og rfl (of_eff (s_field_pt rfl Try.underlying35 rfl ti33 rfl rfl rfl) rfl)) ?_
      refine dr_nam (d := 20) (v := .ow 105) (m := 105) (nw := [(105, .tr 24 3 (tD eEn (((x.ents.take i).filter (uq t))))), (103, .bt 35 [.un])]) rfl (og rfl (of_eff (op_takeBt 105 rfl Try.underlying33 rfl rfl rfl rfl rfl rfl) rfl)) ?_
      refine dr_put (d := 21) (v := .d (.ag (eEn (ix x.ents i)))) rfl (og rfl (of_eff (s_load_pts rfl Try.underlying24 rfl ti24 rfl rfl rfl rfl) rfl)) ?_
      refine dr_put (d := 22) (v := .d (.ag (eEn (ix x.ents i)))) rfl (og rfl (op_call rfl Try.func37 nm37 rfl (.cons rfl (.d _) .nil) (freC (ix x.ents i) (by have := hpe.l; omega)) rfl)) ?_
      refine dr_put (d := 23) (v := .d (.sl 3 (List.map eEn [(ix x.ents i)]))) rfl (og rfl (of_eff (op_slices rfl Try.underlying33 ti24 rfl rfl rfl (by kernel_rfl) (xs := [.ag (eEn (ix x.ents i))]) rfl rfl (.cons rfl rfl (.d _) rfl rfl rfl .nil) rfl) rfl)) ?_
      refine dr_nam (d := 24) (v := .ow 106) (m := 106) (nw := [(106, .tr 24 3 (tD eEn ((((x.ents.take i).filter (uq t)) ++ [(ix x.ents i)])))), (105, .no)]) rfl (og rfl (of_eff (s_append_td 106 rfl Try.underlying33 ti24 rfl rfl rfl rfl rfl (.d _) (by first | omega | (simp only [List.length_append, List.length_cons, List.length_nil]; omega)) rfl) rfl)) ?_
      refine dr_put (d := 25) (v := .pt 103 0) rfl (og rfl (of_eff (s_field_pt rfl Try.underlying35 rfl ti33 rfl rfl rfl) rfl)) ?_
      refine dr_sto (nw := [(103, .bt 35 [.ow 24 3 (List.map eEn ((((x.ents.take i).filter (uq t)) ++ [(ix x.ents i)])))]), (106, .no)]) rfl (og rfl (of_eff (op_store_bt rfl rfl ti33 rfl rfl rfl (.tr rfl) rfl rfl rfl) rfl)) ?_
      refine dr_done rfl (by kernel_rfl) (by kernel_rfl) ?_
      show A _ _ _ _ _ _ _
      refine a_region ?_
      refine rg_put (d := 26) (v := .d (.fl (.int .i64 (((i : Int) + 1))))) rfl (og rfl (op_bin rfl rfl rfl (fun x y w => b_add64 _ _ _ x y w (by omega)) rfl)) ?_
      refine rg_put (d := 11) (v := .d (.fl (.int .i64 (((i : Int) + 1))))) rfl (og rfl (op_move rfl rfl rfl)) ?_
      refine rg_done rfl ?_
      have hst : (((x.ents.take i).filter (uq t)) ++ [(ix x.ents i)]) = (x.ents.take (i + 1)).filter (uq t) := flt_y (by omega) h3
      show ∃ i, _ ∧ _ ∧ Imp _ _ _ _ _
      refine ⟨i + 1, (by omega), by omega, imp_forget rfl ⟨rfl, rfl, rfl, rfl, rfl, rfl, rfl, (by first | rfl | exact ci (by omega) | exact ci (by simp) | exact cd (by simp) | simp), trivial⟩ ⟨rfl, rfl, (congrArg (fun z => Ob.bt 35 [OC.ow 24 3 (List.map eEn z)]) hst), trivial⟩⟩
    · skip
      have h5 := f_dec h3
      refine a_skip ?_
      show A _ _ _ _ _ _ _
      refine a_region ?_
      refine rg_put (d := 26) (v := .d (.fl (.int .i64 (((i : Int) + 1))))) rfl (og rfl (op_bin rfl rfl rfl (fun x y w => b_add64 _ _ _ x y w (by omega)) rfl)) ?_
      refine rg_put (d := 11) (v := .d (.fl (.int .i64 (((i : Int) + 1))))) rfl (og rfl (op_move rfl rfl rfl)) ?_
      refine rg_done rfl ?_
      have hst : ((x.ents.take i).filter (uq t)) = (x.ents.take (i + 1)).filter (uq t) := flt_n (by omega) h3
      show ∃ i, _ ∧ _ ∧ Imp _ _ _ _ _
      refine ⟨i + 1, (by omega), by omega, imp_forget rfl ⟨rfl, rfl, rfl, rfl, rfl, rfl, rfl, (by first | rfl | exact ci (by omega) | exact ci (by simp) | exact cd (by simp) | simp), trivial⟩ ⟨rfl, rfl, (congrArg (fun z => Ob.bt 35 [OC.ow 24 3 (List.map eEn z)]) hst), trivial⟩⟩
  · skip
    have h6 := f_dec h1
    refine a_exit ?_
    show A _ _ _ _ _ _ _
    refine a_rseq ?_
    have hie : i = x.ents.length := by omega
    rw [show ((x.ents.take i).filter (uq t)) = (x.ents.filter (uq t)) from (by rw [hie, List.take_length])]
    refine rg_imp (imp_leakBt 103 (ds := [.sl 3 (List.map eEn ((x.ents.filter (uq t))))]) rfl rfl rfl) ?_
    refine rg_put (d := 27) (v := .d (.ag (eLe ((Led.mk ((x.ents.filter (uq t)))))))) rfl (og rfl (of_eff (s_load_pts rfl Try.underlying35 rfl ti35 rfl rfl rfl rfl) rfl)) ?_
    refine rg_sto (nw := [(102, .bx 35 ((eLe ((Led.mk ((x.ents.filter (uq t))))))))]) rfl (og rfl (of_eff (s_store rfl rfl ti35 rfl rfl rfl rfl rfl rfl) rfl)) ?_
    refine rg_done rfl ?_
    refine a_ret ?_
    show ∃ ds, ResL _ _ _ ds ∧ RV.of ds = _
    refine ⟨[.ag [.sl 3 (List.map eEn (((Led.mk ((x.ents.filter (uq t))))).ents))]], (.cons (.cellT rfl rfl Try.underlying35 rfl ti35 rfl (Cv.ag (xs := [.sl 3 (List.map eEn (((Led.mk ((x.ents.filter (uq t))))).ents))]) (ys := [.sl 3 (List.map eEn (((Led.mk ((x.ents.filter (uq t))))).ents))]) ⟨Cv.refl _, trivial⟩)) .nil), ?_⟩
    rfl
set_option maxHeartbeats 4000000 in
set_option maxRecDepth 100000 in
theorem untR (x : Led) (t : Int) (hx : okL x.ents) : Ctr Try.prog 29 [.ag (eLe x), .fl (.int .i64 t)] (.d (.ag (eLe ⟨x.ents.filter (uq t)⟩))) := by
  refine ctr (n := 34) (rs := #[.cell 4 35]) (L := [(0, .d (.ag (eLe x))), (1, .d (.fl (.int .i64 t)))]) Try.func29 rfl rfl rfl rfl rfl (fun w0 U0 => ?_)
  refine a_rseq ?_
  have hxl := hx.n
  refine rg_nam (d := 2) (v := .pt 101 0) (m := 101) (nw := [(101, .bx 35 (eLe x))]) rfl (og rfl (of_eff (op_box 101 rfl rfl rfl rfl) rfl)) rfl ?_
  refine rg_nam (d := 4) (v := .pt 102 0) (m := 102) (nw := [(102, .bx 35 [.fl (.slice none 0 0)])]) rfl (og rfl (of_eff (s_alloc 102 rfl ti35 (by kernel_rfl) rfl) rfl)) rfl ?_
  refine rg_done rfl ?_
  refine a_rseq ?_
  refine rg_nam (d := 5) (v := .pt 103 0) (m := 103) (nw := [(103, .bx 35 [.fl (.slice none 0 0)])]) rfl (og rfl (of_eff (s_alloc 103 rfl ti35 (by kernel_rfl) rfl) rfl)) rfl ?_
  refine rg_done rfl ?_
  refine a_seq ?_
  refine a_rseq ?_
  refine rg_imp (imp_bt 103 rfl) ?_
  refine rg_imp (imp_btnil 103 0 24 3 rfl rfl) ?_
  refine rg_put (d := 6) (v := .d (.fl (.int .i64 0))) rfl (og rfl (op_assign rfl rfl rfl)) ?_
  refine rg_done rfl ?_
  refine a_block ?_
  refine a_loop (ι := Nat) (fun i => SS [(0, .d (.ag (eLe x))), (1, .d (.fl (.int .i64 t))), (2, .pt 101 0), (4, .pt 102 0), (5, .pt 103 0), (6, .d (.fl (.int .i64 (i : Int))))] [(101, .bx 35 (eLe x)), (102, .bx 35 [.fl (.slice none 0 0)]), (103, .bt 35 [.ow 24 3 (List.map eEn (((x.ents.take i).filter (uq t))))])]) (fun i => i ≤ x.ents.length) (fun i => x.ents.length - i) 0 (by omega) (imp_forget rfl ⟨rfl, rfl, rfl, rfl, rfl, (by first | rfl | exact ci (by omega) | exact ci (by simp) | exact cd (by simp) | simp), trivial⟩ ⟨rfl, rfl, rfl, trivial⟩) (fun i hok => ?_)
  have hi := hok
  have hfl := flt_len x.ents (uq t) i
  refine a_seq ?_
  refine a_rseq ?_
  refine rg_put (d := 7) (v := .d (.fl (.int .i64 (i : Int)))) rfl (og rfl (op_move rfl rfl rfl)) ?_
  refine rg_put (d := 8) (v := .pt 101 0) rfl (og rfl (of_eff (s_field_pt rfl Try.underlying35 rfl ti33 rfl rfl rfl) rfl)) ?_
  refine rg_put (d := 9) (v := .d (.sl 3 (List.map eEn x.ents))) rfl (og rfl (op_load_pt rfl Try.underlying33 rfl rfl rfl rfl rfl)) ?_
  refine rg_put (d := 10) (v := .d (.fl (.int .i64 (x.ents.length : Int)))) rfl (og rfl (s_len rfl Try.underlying33 rfl rfl)) ?_
  refine rg_put (d := 11) (v := .d (.fl (.bool ((decide ((i : Int) < (x.ents.length : Int))))))) rfl (og rfl (op_bin rfl rfl rfl (b_lss _ _ _ _) rfl)) ?_
  refine rg_done rfl ?_
  refine a_cond rfl (fun h1 => ?_) (fun h1 => ?_)
  · skip
    have h2 := t_dec h1
    refine a_skip ?_
    show A _ _ _ _ _ _ _
    refine a_seq ?_
    refine a_block ?_
    refine a_rseq ?_
    have hpe := hx.e _ (ix_mem (by omega : i < x.ents.length))
    refine rg_put (d := 14) (v := .pt 101 0) rfl (og rfl (of_eff (s_field_pt rfl Try.underlying35 rfl ti33 rfl rfl rfl) rfl)) ?_
    refine rg_put (d := 15) (v := .d (.sl 3 (List.map eEn x.ents))) rfl (og rfl (op_load_pt rfl Try.underlying33 rfl rfl rfl rfl rfl)) ?_
    refine rg_put (d := 16) (v := .d (.fl (.int .i64 (i : Int)))) rfl (og rfl (op_move rfl rfl rfl)) ?_
    refine rg_put (d := 17) (v := .el ((eEn (ix x.ents i)))) rfl (og rfl (s_index rfl Try.underlying33 ti24 rfl rfl (by omega) (row_at (by omega)) rfl)) ?_
    refine rg_put (d := 18) (v := .el ((List.drop 1 ((eEn (ix x.ents i)))))) rfl (og rfl (of_eff (s_field_el rfl Try.underlying24 rfl ti3 rfl rfl rfl) rfl)) ?_
    refine rg_put (d := 19) (v := .d (.fl (.int .i64 ((ix x.ents i).time)))) rfl (og rfl (op_load_el rfl Try.underlying3 rfl rfl rfl rfl)) ?_
    refine rg_put (d := 20) (v := .d (.fl (.int .i64 t))) rfl (og rfl (op_move rfl rfl rfl)) ?_
    refine rg_put (d := 21) (v := .d (.fl (.bool ((decide ((ix x.ents i).time < t)))))) rfl (og rfl (op_bin rfl rfl rfl (b_lss _ _ _ _) rfl)) ?_
    refine rg_done rfl ?_
    refine a_cond rfl (fun h3 => ?_) (fun h3 => ?_)
    · skip
      have h4 := t_dec h3
      refine a_draw (by kernel_rfl) ?_
      refine dr_put (d := 22) (v := .pt 103 0) rfl (og rfl (of_eff (s_field_pt rfl Try.underlying35 rfl ti33 rfl rfl rfl) rfl)) ?_
      refine dr_nam (d := 23) (v := .ow 104) (m := 104) (nw := [(104, .tr 24 3 (tD eEn (((x.ents.take i).filter (uq t))))), (103, .bt 35 [.un])]) rfl (og rfl (of_eff (op_takeBt 104 rfl Try.underlying33 rfl rfl rfl rfl rfl rfl) rfl)) ?_
      refine dr_put (d := 24) (v := .pt 101 0) rfl (og rfl (of_eff (s_field_pt rfl Try.underlying35 rfl ti33 rfl rfl rfl) rfl)) ?_
      refine dr_put (d := 25) (v := .d (.sl 3 (List.map eEn x.ents))) rfl (og rfl (op_load_pt rfl Try.underlying33 rfl rfl rfl rfl rfl)) ?_
      refine dr_put (d := 26) (v := .d (.fl (.int .i64 (i : Int)))) rfl (og rfl (op_move rfl rfl rfl)) ?_
      refine dr_put (d := 27) (v := .el ((eEn (ix x.ents i)))) rfl (og rfl (s_index rfl Try.underlying33 ti24 rfl rfl (by omega) (row_at (by omega)) rfl)) ?_
      refine dr_put (d := 28) (v := .d (.ag (eEn (ix x.ents i)))) rfl (og rfl (of_eff (s_load_els rfl Try.underlying24 rfl ti24 rfl rfl rfl) rfl)) ?_
      refine dr_put (d := 29) (v := .d (.ag (eEn (ix x.ents i)))) rfl (og rfl (op_call rfl Try.func38 nm38 rfl (.cons rfl (.d _) .nil) (copR (ix x.ents i) (by have := hpe.l; omega)) rfl)) ?_
      refine dr_put (d := 30) (v := .d (.sl 3 (List.map eEn [(ix x.ents i)]))) rfl (og rfl (of_eff (op_slices rfl Try.underlying33 ti24 rfl rfl rfl (by kernel_rfl) (xs := [.ag (eEn (ix x.ents i))]) rfl rfl (.cons rfl rfl (.d _) rfl rfl rfl .nil) rfl) rfl)) ?_
      refine dr_nam (d := 31) (v := .ow 105) (m := 105) (nw := [(105, .tr 24 3 (tD eEn ((((x.ents.take i).filter (uq t)) ++ [(ix x.ents i)])))), (104, .no)]) rfl (og rfl (of_eff (s_append_td 105 rfl Try.underlying33 ti24 rfl rfl rfl rfl rfl (.d _) (by first | omega | (simp only [List.length_append, List.length_cons, List.length_nil]; omega)) rfl) rfl)) ?_
      refine dr_put (d := 32) (v := .pt 103 0) rfl (og rfl (of_eff (s_field_pt rfl Try.underlying35 rfl ti33 rfl rfl rfl) rfl)) ?_
      refine dr_sto (nw := [(103, .bt 35 [.ow 24 3 (List.map eEn ((((x.ents.take i).filter (uq t)) ++ [(ix x.ents i)])))]), (105, .no)]) rfl (og rfl (of_eff (op_store_bt rfl rfl ti33 rfl rfl rfl (.tr rfl) rfl rfl rfl) rfl)) ?_
      refine dr_done rfl (by kernel_rfl) (by kernel_rfl) ?_
      show A _ _ _ _ _ _ _
      refine a_region ?_
      refine rg_put (d := 12) (v := .d (.fl (.int .i64 (i : Int)))) rfl (og rfl (op_move rfl rfl rfl)) ?_
      refine rg_put (d := 13) (v := .d (.fl (.int .i64 (((i : Int) + 1))))) rfl (og rfl (op_bin rfl rfl rfl (fun x y w => b_add64 _ _ _ x y w (by omega)) rfl)) ?_
      refine rg_put (d := 6) (v := .d (.fl (.int .i64 (((i : Int) + 1))))) rfl (og rfl (op_assign rfl rfl rfl)) ?_
      refine rg_done rfl ?_
      have hst : (((x.ents.take i).filter (uq t)) ++ [(ix x.ents i)]) = (x.ents.take (i + 1)).filter (uq t) := flt_y (by omega) h3
      show ∃ i, _ ∧ _ ∧ Imp _ _ _ _ _
      refine ⟨i + 1, (by omega), by omega, imp_forget rfl ⟨rfl, rfl, rfl, rfl, rfl, (by first | rfl | exact ci (by omega) | exact ci (by simp) | exact cd (by simp) | simp), trivial⟩ ⟨rfl, rfl, (congrArg (fun z => Ob.bt 35 [OC.ow 24 3 (List.map eEn z)]) hst), trivial⟩⟩
    · skip
      have h5 := f_dec h3
      refine a_skip ?_
      show A _ _ _ _ _ _ _
      refine a_region ?_
      refine rg_put (d := 12) (v := .d (.fl (.int .i64 (i : Int)))) rfl (og rfl (op_move rfl rfl rfl)) ?_
      refine rg_put (d := 13) (v := .d (.fl (.int .i64 (((i : Int) + 1))))) rfl (og rfl (op_bin rfl rfl rfl (fun x y w => b_add64 _ _ _ x y w (by omega)) rfl)) ?_
      refine rg_put (d := 6) (v := .d (.fl (.int .i64 (((i : Int) + 1))))) rfl (og rfl (op_assign rfl rfl rfl)) ?_
      refine rg_done rfl ?_
      have hst : ((x.ents.take i).filter (uq t)) = (x.ents.take (i + 1)).filter (uq t) := flt_n (by omega) h3
      show ∃ i, _ ∧ _ ∧ Imp _ _ _ _ _
      refine ⟨i + 1, (by omega), by omega, imp_forget rfl ⟨rfl, rfl, rfl, rfl, rfl, (by first | rfl | exact ci (by omega) | exact ci (by simp) | exact cd (by simp) | simp), trivial⟩ ⟨rfl, rfl, (congrArg (fun z => Ob.bt 35 [OC.ow 24 3 (List.map eEn z)]) hst), trivial⟩⟩
  · skip
    have h6 := f_dec h1
    refine a_exit ?_
    show A _ _ _ _ _ _ _
    refine a_rseq ?_
    have hie : i = x.ents.length := by omega
    rw [show ((x.ents.take i).filter (uq t)) = (x.ents.filter (uq t)) from (by rw [hie, List.take_length])]
    refine rg_imp (imp_leakBt 103 (ds := [.sl 3 (List.map eEn ((x.ents.filter (uq t))))]) rfl rfl rfl) ?_
    refine rg_put (d := 33) (v := .d (.ag (eLe ((Led.mk ((x.ents.filter (uq t)))))))) rfl (og rfl (of_eff (s_load_pts rfl Try.underlying35 rfl ti35 rfl rfl rfl rfl) rfl)) ?_
    refine rg_sto (nw := [(102, .bx 35 ((eLe ((Led.mk ((x.ents.filter (uq t))))))))]) rfl (og rfl (of_eff (s_store rfl rfl ti35 rfl rfl rfl rfl rfl rfl) rfl)) ?_
    refine rg_done rfl ?_
    refine a_ret ?_
    show ∃ ds, ResL _ _ _ ds ∧ RV.of ds = _
    refine ⟨[.ag [.sl 3 (List.map eEn (((Led.mk ((x.ents.filter (uq t))))).ents))]], (.cons (.cellT rfl rfl Try.underlying35 rfl ti35 rfl (Cv.ag (xs := [.sl 3 (List.map eEn (((Led.mk ((x.ents.filter (uq t))))).ents))]) (ys := [.sl 3 (List.map eEn (((Led.mk ((x.ents.filter (uq t))))).ents))]) ⟨Cv.refl _, trivial⟩)) .nil), ?_⟩
    rfl
theorem eqI31 (a : Po) (w : World) : (Op.equalIn 10000 31 (.agg (([.string a.acc, .int .i64 a.cents] : List Value).toArray)) (.agg (([.string a.acc, .int .i64 a.cents] : List Value).toArray))).run Try.prog w = .ok true w := by
  have hS : Try.prog.underlying 31 = some (.struct (Try.prog.fieldsOf 31)) := by kernel_rfl
  have hp : Try.prog.stoodInHeld 31 = false := by kernel_rfl
  rw [show (10000 : Nat) = 9999 + 1 from rfl, run_equalIn_agg w 9999 31 _ _ hS hp]
  simp only [Program.fieldsOf, Try.underlying31]
  go_simp

theorem eql31 (a : Po) (x y : Operand) (w : World) : (do eqGuard .eql 31 x y (.agg (([.string a.acc, .int .i64 a.cents] : List Value).toArray)) (.agg (([.string a.acc, .int .i64 a.cents] : List Value).toArray)); binOp .eql 31 (.agg (([.string a.acc, .int .i64 a.cents] : List Value).toArray)) (.agg (([.string a.acc, .int .i64 a.cents] : List Value).toArray)) : Sem Value).run Try.prog w = .ok (.bool true) w := by
  have hm : Try.prog.eqGuardType Try.prog.depth 31 = false := by kernel_rfl
  rw [Sem.run_bind, run_eqGuard_agg w .eql 31 x y _ _ hm, Result.andThen_ok, run_eql_struct, eqI31]
  rfl

theorem neq31 (a : Po) (x y : Operand) (w : World) : (do eqGuard .neq 31 x y (.agg (([.string a.acc, .int .i64 a.cents] : List Value).toArray)) (.agg (([.string a.acc, .int .i64 a.cents] : List Value).toArray)); binOp .neq 31 (.agg (([.string a.acc, .int .i64 a.cents] : List Value).toArray)) (.agg (([.string a.acc, .int .i64 a.cents] : List Value).toArray)) : Sem Value).run Try.prog w = .ok (.bool false) w := by
  have hm : Try.prog.eqGuardType Try.prog.depth 31 = false := by kernel_rfl
  rw [Sem.run_bind, run_eqGuard_agg w .neq 31 x y _ _ hm, Result.andThen_ok, run_neq_struct, eqI31]
  rfl

set_option maxHeartbeats 4000000 in
set_option maxRecDepth 100000 in
theorem samE (e : En) (he : e.posts.length ≤ 1000000) : Ctr Try.prog 22 [.ag (eEn e), .ag (eEn e)] (.d (.fl (.bool (true)))) := by
  refine ctr (n := 45) (rs := #[.tmp 4]) (L := [(0, .d (.ag (eEn e))), (1, .d (.ag (eEn e)))]) Try.func22 rfl rfl rfl rfl rfl (fun w0 U0 => ?_)
  refine a_rseq ?_
  refine rg_nam (d := 2) (v := .pt 101 0) (m := 101) (nw := [(101, .bx 24 (eEn e))]) rfl (og rfl (of_eff (op_box 101 rfl rfl rfl rfl) rfl)) rfl ?_
  refine rg_nam (d := 3) (v := .pt 102 0) (m := 102) (nw := [(102, .bx 24 (eEn e))]) rfl (og rfl (of_eff (op_box 102 rfl rfl rfl rfl) rfl)) rfl ?_
  refine rg_put (d := 4) (v := .d (.fl (.bool false))) rfl (og rfl (op_assign rfl rfl rfl)) ?_
  refine rg_done rfl ?_
  refine a_seq ?_
  refine a_rseq ?_
  refine rg_put (d := 6) (v := .pt 101 0) rfl (og rfl (of_eff (s_field_pt rfl Try.underlying24 rfl ti9 rfl rfl rfl) rfl)) ?_
  refine rg_put (d := 7) (v := .d (.fl (.string e.key))) rfl (og rfl (op_load_pt rfl Try.underlying9 rfl rfl rfl rfl rfl)) ?_
  refine rg_put (d := 8) (v := .pt 102 0) rfl (og rfl (of_eff (s_field_pt rfl Try.underlying24 rfl ti9 rfl rfl rfl) rfl)) ?_
  refine rg_put (d := 9) (v := .d (.fl (.string e.key))) rfl (og rfl (op_load_pt rfl Try.underlying9 rfl rfl rfl rfl rfl)) ?_
  refine rg_put (d := 10) (v := .d (.fl (.bool ((!(sEq e.key e.key)))))) rfl (og rfl (op_bin rfl rfl rfl (b_sne _ _ _) rfl)) ?_
  refine rg_put (d := 11) (v := .d (.fl (.bool ((!(sEq e.key e.key)))))) rfl (og rfl (op_move rfl rfl rfl)) ?_
  refine rg_put (d := 12) (v := .pt 101 1) rfl (oy rfl rfl rfl (not_f (eq_self_s _)) (of_eff (s_field_pt rfl Try.underlying24 rfl ti3 rfl rfl rfl) rfl)) ?_
  refine rg_put (d := 13) (v := .d (.fl (.int .i64 e.time))) rfl (oy rfl rfl rfl (not_f (eq_self_s _)) (op_load_pt rfl Try.underlying3 rfl rfl rfl rfl rfl)) ?_
  refine rg_put (d := 14) (v := .pt 102 1) rfl (oy rfl rfl rfl (not_f (eq_self_s _)) (of_eff (s_field_pt rfl Try.underlying24 rfl ti3 rfl rfl rfl) rfl)) ?_
  refine rg_put (d := 15) (v := .d (.fl (.int .i64 e.time))) rfl (oy rfl rfl rfl (not_f (eq_self_s _)) (op_load_pt rfl Try.underlying3 rfl rfl rfl rfl rfl)) ?_
  refine rg_put (d := 16) (v := .d (.fl (.bool (e.time != e.time)))) rfl (oy rfl rfl rfl (not_f (eq_self_s _)) (op_bin rfl rfl rfl (b_neq _ _ _ _) rfl)) ?_
  refine rg_put (d := 17) (v := .d (.fl (.bool (e.time != e.time)))) rfl (og rfl (op_pick rfl rfl (by rw [(not_f (eq_self_s _))]; rfl) rfl)) ?_
  refine rg_put (d := 18) (v := .d (.fl (.bool (e.time != e.time)))) rfl (og rfl (op_move rfl rfl rfl)) ?_
  refine rg_put (d := 19) (v := .pt 101 2) rfl (oy rfl rfl rfl (bne_self_eq_false _) (of_eff (s_field_pt rfl Try.underlying24 rfl ti22 rfl rfl rfl) rfl)) ?_
  refine rg_put (d := 20) (v := .d (.sl 2 (List.map ePo e.posts))) rfl (oy rfl rfl rfl (bne_self_eq_false _) (op_load_pt rfl Try.underlying22 rfl rfl rfl rfl rfl)) ?_
  refine rg_put (d := 21) (v := .d (.fl (.int .i64 (e.posts.length : Int)))) rfl (oy rfl rfl rfl (bne_self_eq_false _) (s_len rfl Try.underlying22 rfl rfl)) ?_
  refine rg_put (d := 22) (v := .pt 102 2) rfl (oy rfl rfl rfl (bne_self_eq_false _) (of_eff (s_field_pt rfl Try.underlying24 rfl ti22 rfl rfl rfl) rfl)) ?_
  refine rg_put (d := 23) (v := .d (.sl 2 (List.map ePo e.posts))) rfl (oy rfl rfl rfl (bne_self_eq_false _) (op_load_pt rfl Try.underlying22 rfl rfl rfl rfl rfl)) ?_
  refine rg_put (d := 24) (v := .d (.fl (.int .i64 (e.posts.length : Int)))) rfl (oy rfl rfl rfl (bne_self_eq_false _) (s_len rfl Try.underlying22 rfl rfl)) ?_
  refine rg_put (d := 25) (v := .d (.fl (.bool (((e.posts.length : Int) != (e.posts.length : Int)))))) rfl (oy rfl rfl rfl (bne_self_eq_false _) (op_bin rfl rfl rfl (b_neq _ _ _ _) rfl)) ?_
  refine rg_put (d := 26) (v := .d (.fl (.bool (((e.posts.length : Int) != (e.posts.length : Int)))))) rfl (og rfl (op_pick rfl rfl (by rw [(bne_self_eq_false _)]; rfl) rfl)) ?_
  refine rg_done rfl ?_
  refine a_condF rfl (bne_self_eq_false _) ?_
  refine a_skip ?_
  show A _ _ _ _ _ _ _
  refine a_seq ?_
  refine a_rseq ?_
  refine rg_put (d := 5) (v := .d (.fl (.int .i64 0))) rfl (og rfl (op_assign rfl rfl rfl)) ?_
  refine rg_done rfl ?_
  refine a_block ?_
  refine a_loop (ι := Nat) (fun k => SS [(0, .d (.ag (eEn e))), (1, .d (.ag (eEn e))), (2, .pt 101 0), (3, .pt 102 0), (26, .d (.fl (.bool (((e.posts.length : Int) != (e.posts.length : Int)))))), (5, .d (.fl (.int .i64 (k : Int))))] [(101, .bx 24 (eEn e)), (102, .bx 24 (eEn e))]) (fun k => k ≤ e.posts.length) (fun k => e.posts.length - k) 0 (by omega) (imp_forget rfl ⟨rfl, rfl, rfl, rfl, rfl, (by first | rfl | exact ci (by omega) | exact ci (by simp) | exact cd (by simp) | simp), trivial⟩ ⟨rfl, rfl, trivial⟩) (fun k hok => ?_)
  have hk := hok
  refine a_seq ?_
  refine a_rseq ?_
  refine rg_put (d := 27) (v := .d (.fl (.int .i64 (k : Int)))) rfl (og rfl (op_move rfl rfl rfl)) ?_
  refine rg_put (d := 28) (v := .pt 101 2) rfl (og rfl (of_eff (s_field_pt rfl Try.underlying24 rfl ti22 rfl rfl rfl) rfl)) ?_
  refine rg_put (d := 29) (v := .d (.sl 2 (List.map ePo e.posts))) rfl (og rfl (op_load_pt rfl Try.underlying22 rfl rfl rfl rfl rfl)) ?_
  refine rg_put (d := 30) (v := .d (.fl (.int .i64 (e.posts.length : Int)))) rfl (og rfl (s_len rfl Try.underlying22 rfl rfl)) ?_
  refine rg_put (d := 31) (v := .d (.fl (.bool ((decide ((k : Int) < (e.posts.length : Int))))))) rfl (og rfl (op_bin rfl rfl rfl (b_lss _ _ _ _) rfl)) ?_
  refine rg_done rfl ?_
  refine a_cond rfl (fun h1 => ?_) (fun h1 => ?_)
  · skip
    have h2 := t_dec h1
    refine a_skip ?_
    show A _ _ _ _ _ _ _
    refine a_seq ?_
    refine a_block ?_
    refine a_dseq (by kernel_rfl) ?_
    refine dr_put (d := 34) (v := .pt 101 2) rfl (og rfl (of_eff (s_field_pt rfl Try.underlying24 rfl ti22 rfl rfl rfl) rfl)) ?_
    refine dr_put (d := 35) (v := .d (.sl 2 (List.map ePo e.posts))) rfl (og rfl (op_load_pt rfl Try.underlying22 rfl rfl rfl rfl rfl)) ?_
    refine dr_put (d := 36) (v := .d (.fl (.int .i64 (k : Int)))) rfl (og rfl (op_move rfl rfl rfl)) ?_
    refine dr_put (d := 37) (v := .el ((ePo (ix e.posts k)))) rfl (og rfl (s_index rfl Try.underlying22 ti31 rfl rfl (by omega) (row_at (by omega)) rfl)) ?_
    refine dr_put (d := 38) (v := .d (.ag (ePo (ix e.posts k)))) rfl (og rfl (of_eff (s_load_els rfl Try.underlying31 rfl ti31 rfl rfl rfl) rfl)) ?_
    refine dr_put (d := 39) (v := .pt 102 2) rfl (og rfl (of_eff (s_field_pt rfl Try.underlying24 rfl ti22 rfl rfl rfl) rfl)) ?_
    refine dr_put (d := 40) (v := .d (.sl 2 (List.map ePo e.posts))) rfl (og rfl (op_load_pt rfl Try.underlying22 rfl rfl rfl rfl rfl)) ?_
    refine dr_put (d := 41) (v := .d (.fl (.int .i64 (k : Int)))) rfl (og rfl (op_move rfl rfl rfl)) ?_
    refine dr_put (d := 42) (v := .el ((ePo (ix e.posts k)))) rfl (og rfl (s_index rfl Try.underlying22 ti31 rfl rfl (by omega) (row_at (by omega)) rfl)) ?_
    refine dr_put (d := 43) (v := .d (.ag (ePo (ix e.posts k)))) rfl (og rfl (of_eff (s_load_els rfl Try.underlying31 rfl ti31 rfl rfl rfl) rfl)) ?_
    refine dr_put (d := 44) (v := .d (.fl (.bool false))) rfl (og rfl (op_eqS [.string ((ix e.posts k).acc), .int .i64 ((ix e.posts k).cents)] [.string ((ix e.posts k).acc), .int .i64 ((ix e.posts k).cents)] rfl rfl rfl (b := false) (fun ww => neq31 (ix e.posts k) _ _ ww) rfl)) ?_
    refine dr_done rfl (by kernel_rfl) (by kernel_rfl) ?_
    refine a_condF rfl rfl ?_
    refine a_skip ?_
    show A _ _ _ _ _ _ _
    refine a_region ?_
    refine rg_put (d := 32) (v := .d (.fl (.int .i64 (k : Int)))) rfl (og rfl (op_move rfl rfl rfl)) ?_
    refine rg_put (d := 33) (v := .d (.fl (.int .i64 (((k : Int) + 1))))) rfl (og rfl (op_bin rfl rfl rfl (fun x y w => b_add64 _ _ _ x y w (by omega)) rfl)) ?_
    refine rg_put (d := 5) (v := .d (.fl (.int .i64 (((k : Int) + 1))))) rfl (og rfl (op_assign rfl rfl rfl)) ?_
    refine rg_done rfl ?_
    show ∃ i, _ ∧ _ ∧ Imp _ _ _ _ _
    refine ⟨k + 1, (by omega), by omega, imp_forget rfl ⟨rfl, rfl, rfl, rfl, rfl, (by first | rfl | exact ci (by omega) | exact ci (by simp) | exact cd (by simp) | simp), trivial⟩ ⟨rfl, rfl, trivial⟩⟩
  · skip
    have h3 := f_dec h1
    refine a_exit ?_
    show A _ _ _ _ _ _ _
    refine a_rseq ?_
    refine rg_put (d := 4) (v := .d (.fl (.bool true))) rfl (og rfl (op_assign rfl rfl rfl)) ?_
    refine rg_done rfl ?_
    refine a_ret ?_
    show ∃ ds, ResL _ _ _ ds ∧ RV.of ds = _
    refine ⟨[.fl (.bool true)], (.cons (.tmp rfl (.d _)) .nil), ?_⟩
    rfl
set_option maxHeartbeats 4000000 in
set_option maxRecDepth 100000 in
theorem samL (x : Led) (hx : okL x.ents) : Ctr Try.prog 17 [.ag (eLe x), .ag (eLe x)] (.d (.fl (.bool (true)))) := by
  refine ctr (n := 32) (rs := #[.tmp 4]) (L := [(0, .d (.ag (eLe x))), (1, .d (.ag (eLe x)))]) Try.func17 rfl rfl rfl rfl rfl (fun w0 U0 => ?_)
  refine a_rseq ?_
  have hxl := hx.n
  refine rg_nam (d := 2) (v := .pt 101 0) (m := 101) (nw := [(101, .bx 35 (eLe x))]) rfl (og rfl (of_eff (op_box 101 rfl rfl rfl rfl) rfl)) rfl ?_
  refine rg_nam (d := 3) (v := .pt 102 0) (m := 102) (nw := [(102, .bx 35 (eLe x))]) rfl (og rfl (of_eff (op_box 102 rfl rfl rfl rfl) rfl)) rfl ?_
  refine rg_put (d := 4) (v := .d (.fl (.bool false))) rfl (og rfl (op_assign rfl rfl rfl)) ?_
  refine rg_done rfl ?_
  refine a_seq ?_
  refine a_rseq ?_
  refine rg_put (d := 6) (v := .pt 101 0) rfl (og rfl (of_eff (s_field_pt rfl Try.underlying35 rfl ti33 rfl rfl rfl) rfl)) ?_
  refine rg_put (d := 7) (v := .d (.sl 3 (List.map eEn x.ents))) rfl (og rfl (op_load_pt rfl Try.underlying33 rfl rfl rfl rfl rfl)) ?_
  refine rg_put (d := 8) (v := .d (.fl (.int .i64 (x.ents.length : Int)))) rfl (og rfl (s_len rfl Try.underlying33 rfl rfl)) ?_
  refine rg_put (d := 9) (v := .pt 102 0) rfl (og rfl (of_eff (s_field_pt rfl Try.underlying35 rfl ti33 rfl rfl rfl) rfl)) ?_
  refine rg_put (d := 10) (v := .d (.sl 3 (List.map eEn x.ents))) rfl (og rfl (op_load_pt rfl Try.underlying33 rfl rfl rfl rfl rfl)) ?_
  refine rg_put (d := 11) (v := .d (.fl (.int .i64 (x.ents.length : Int)))) rfl (og rfl (s_len rfl Try.underlying33 rfl rfl)) ?_
  refine rg_put (d := 12) (v := .d (.fl (.bool (((x.ents.length : Int) != (x.ents.length : Int)))))) rfl (og rfl (op_bin rfl rfl rfl (b_neq _ _ _ _) rfl)) ?_
  refine rg_done rfl ?_
  refine a_condF rfl (bne_self_eq_false _) ?_
  refine a_skip ?_
  show A _ _ _ _ _ _ _
  refine a_seq ?_
  refine a_rseq ?_
  refine rg_put (d := 5) (v := .d (.fl (.int .i64 0))) rfl (og rfl (op_assign rfl rfl rfl)) ?_
  refine rg_done rfl ?_
  refine a_block ?_
  refine a_loop (ι := Nat) (fun i => SS [(0, .d (.ag (eLe x))), (1, .d (.ag (eLe x))), (2, .pt 101 0), (3, .pt 102 0), (12, .d (.fl (.bool (((x.ents.length : Int) != (x.ents.length : Int)))))), (5, .d (.fl (.int .i64 (i : Int))))] [(101, .bx 35 (eLe x)), (102, .bx 35 (eLe x))]) (fun i => i ≤ x.ents.length) (fun i => x.ents.length - i) 0 (by omega) (imp_forget rfl ⟨rfl, rfl, rfl, rfl, rfl, (by first | rfl | exact ci (by omega) | exact ci (by simp) | exact cd (by simp) | simp), trivial⟩ ⟨rfl, rfl, trivial⟩) (fun i hok => ?_)
  have hi := hok
  refine a_seq ?_
  refine a_rseq ?_
  refine rg_put (d := 13) (v := .d (.fl (.int .i64 (i : Int)))) rfl (og rfl (op_move rfl rfl rfl)) ?_
  refine rg_put (d := 14) (v := .pt 101 0) rfl (og rfl (of_eff (s_field_pt rfl Try.underlying35 rfl ti33 rfl rfl rfl) rfl)) ?_
  refine rg_put (d := 15) (v := .d (.sl 3 (List.map eEn x.ents))) rfl (og rfl (op_load_pt rfl Try.underlying33 rfl rfl rfl rfl rfl)) ?_
  refine rg_put (d := 16) (v := .d (.fl (.int .i64 (x.ents.length : Int)))) rfl (og rfl (s_len rfl Try.underlying33 rfl rfl)) ?_
  refine rg_put (d := 17) (v := .d (.fl (.bool ((decide ((i : Int) < (x.ents.length : Int))))))) rfl (og rfl (op_bin rfl rfl rfl (b_lss _ _ _ _) rfl)) ?_
  refine rg_done rfl ?_
  refine a_cond rfl (fun h1 => ?_) (fun h1 => ?_)
  · skip
    have h2 := t_dec h1
    refine a_skip ?_
    show A _ _ _ _ _ _ _
    refine a_seq ?_
    refine a_block ?_
    refine a_dseq (by kernel_rfl) ?_
    have hpe := hx.e _ (ix_mem (by omega : i < x.ents.length))
    refine dr_put (d := 20) (v := .pt 101 0) rfl (og rfl (of_eff (s_field_pt rfl Try.underlying35 rfl ti33 rfl rfl rfl) rfl)) ?_
    refine dr_put (d := 21) (v := .d (.sl 3 (List.map eEn x.ents))) rfl (og rfl (op_load_pt rfl Try.underlying33 rfl rfl rfl rfl rfl)) ?_
    refine dr_put (d := 22) (v := .d (.fl (.int .i64 (i : Int)))) rfl (og rfl (op_move rfl rfl rfl)) ?_
    refine dr_put (d := 23) (v := .el ((eEn (ix x.ents i)))) rfl (og rfl (s_index rfl Try.underlying33 ti24 rfl rfl (by omega) (row_at (by omega)) rfl)) ?_
    refine dr_put (d := 24) (v := .d (.ag (eEn (ix x.ents i)))) rfl (og rfl (of_eff (s_load_els rfl Try.underlying24 rfl ti24 rfl rfl rfl) rfl)) ?_
    refine dr_put (d := 25) (v := .pt 102 0) rfl (og rfl (of_eff (s_field_pt rfl Try.underlying35 rfl ti33 rfl rfl rfl) rfl)) ?_
    refine dr_put (d := 26) (v := .d (.sl 3 (List.map eEn x.ents))) rfl (og rfl (op_load_pt rfl Try.underlying33 rfl rfl rfl rfl rfl)) ?_
    refine dr_put (d := 27) (v := .d (.fl (.int .i64 (i : Int)))) rfl (og rfl (op_move rfl rfl rfl)) ?_
    refine dr_put (d := 28) (v := .el ((eEn (ix x.ents i)))) rfl (og rfl (s_index rfl Try.underlying33 ti24 rfl rfl (by omega) (row_at (by omega)) rfl)) ?_
    refine dr_put (d := 29) (v := .d (.ag (eEn (ix x.ents i)))) rfl (og rfl (of_eff (s_load_els rfl Try.underlying24 rfl ti24 rfl rfl rfl) rfl)) ?_
    refine dr_put (d := 30) (v := .d (.fl (.bool true))) rfl (og rfl (op_call rfl Try.func22 nm22 rfl (.cons rfl (.d _) (.cons rfl (.d _) .nil)) (samE (ix x.ents i) (by have := hpe.l; omega)) rfl)) ?_
    refine dr_put (d := 31) (v := .d (.fl (.bool (!true)))) rfl (og rfl (op_un rfl rfl (u_not _) rfl)) ?_
    refine dr_done rfl (by kernel_rfl) (by kernel_rfl) ?_
    refine a_condF rfl rfl ?_
    refine a_skip ?_
    show A _ _ _ _ _ _ _
    refine a_region ?_
    refine rg_put (d := 18) (v := .d (.fl (.int .i64 (i : Int)))) rfl (og rfl (op_move rfl rfl rfl)) ?_
    refine rg_put (d := 19) (v := .d (.fl (.int .i64 (((i : Int) + 1))))) rfl (og rfl (op_bin rfl rfl rfl (fun x y w => b_add64 _ _ _ x y w (by omega)) rfl)) ?_
    refine rg_put (d := 5) (v := .d (.fl (.int .i64 (((i : Int) + 1))))) rfl (og rfl (op_assign rfl rfl rfl)) ?_
    refine rg_done rfl ?_
    show ∃ i, _ ∧ _ ∧ Imp _ _ _ _ _
    refine ⟨i + 1, (by omega), by omega, imp_forget rfl ⟨rfl, rfl, rfl, rfl, rfl, (by first | rfl | exact ci (by omega) | exact ci (by simp) | exact cd (by simp) | simp), trivial⟩ ⟨rfl, rfl, trivial⟩⟩
  · skip
    have h3 := f_dec h1
    refine a_exit ?_
    show A _ _ _ _ _ _ _
    refine a_rseq ?_
    refine rg_put (d := 4) (v := .d (.fl (.bool true))) rfl (og rfl (op_assign rfl rfl rfl)) ?_
    refine rg_done rfl ?_
    refine a_ret ?_
    show ∃ ds, ResL _ _ _ ds ∧ RV.of ds = _
    refine ⟨[.fl (.bool true)], (.cons (.tmp rfl (.d _)) .nil), ?_⟩
    rfl
end Go.Proofs.Ytmmadlhkniikdaa.Wk
