/- The report of a case, both sides. Conditions: at most 40 cases, texts of at most 200 bytes. -/
import Derived.Test.YtglhonnmppclpaaDoorB7
set_option linter.unusedSimpArgs false
set_option linter.unusedVariables false
namespace Go.Proofs.YtglhonnmppclpaaDoor.Wk
open Go Go.RowKit Go.Proofs.YtglhonnmppclpaaDoor.Av
set_option maxHeartbeats 4000000 in
set_option maxRecDepth 100000 in
theorem clCase (y : Cs) (id : ByteArray) : Ctr Tryd.prog 46 [.ag (eCs y), .el [.fl (.string id)]] (.d (.fl (.bool (sEq y.id id)))) := by
  refine ctr (n := 8) (rs := #[.tmp 3]) (L := [(0, .d (.ag (eCs y))), (1, .el [.fl (.string id)])]) Tryd.func46 rfl rfl rfl rfl rfl (fun w0 U0 => ?_)
  refine a_rseq ?_
  refine rg_nam (d := 2) (v := .pt 101 0) (m := 101) (nw := [(101, .bx 102 (eCs y))]) rfl (og rfl (of_eff (op_box 101 rfl rfl rfl rfl) rfl)) rfl ?_
  refine rg_put (d := 3) (v := .d (.fl (.bool false))) rfl (og rfl (op_assign rfl rfl rfl)) ?_
  refine rg_done rfl ?_
  refine a_rseq ?_
  refine rg_put (d := 4) (v := .pt 101 0) rfl (og rfl (of_eff (s_field_pt rfl Tryd.underlying102 rfl ti9 rfl rfl rfl) rfl)) ?_
  refine rg_put (d := 5) (v := .d (.fl (.string y.id))) rfl (og rfl (op_load_pt rfl Tryd.underlying9 rfl rfl rfl rfl rfl)) ?_
  refine rg_put (d := 6) (v := .d (.fl (.string id))) rfl (og rfl (op_load_el rfl Tryd.underlying9 rfl rfl rfl rfl)) ?_
  refine rg_put (d := 7) (v := .d (.fl (.bool (sEq y.id id)))) rfl (og rfl (op_bin rfl rfl rfl (b_seq _ _ _) rfl)) ?_
  refine rg_put (d := 3) (v := .d (.fl (.bool (sEq y.id id)))) rfl (og rfl (op_assign rfl rfl rfl)) ?_
  refine rg_done rfl ?_
  refine a_ret ?_
  show ∃ ds, ResL _ _ _ ds ∧ RV.of ds = _
  refine ⟨[.fl (.bool (sEq y.id id))], (.cons (.tmp rfl (.d _)) .nil), ?_⟩
  rfl
set_option maxHeartbeats 4000000 in
set_option maxRecDepth 100000 in
theorem ixCase (l : List Cs) (id : ByteArray) (hl : l.length ≤ 1000) : Ctr Tryd.prog 45 [.sl 12 (List.map eCs l), .fn 46 [.el [.fl (.string id)]]] (.d (.fl (.int .i64 (idx (fun y : Cs => sEq y.id id) l)))) := by
  refine ctr (n := 19) (rs := #[.tmp 4]) (L := [(0, .d (.sl 12 (List.map eCs l))), (1, .d (.fn 46 [.el [.fl (.string id)]]))]) Tryd.func45 rfl rfl rfl rfl rfl (fun w0 U0 => ?_)
  refine a_rseq ?_
  refine rg_put (d := 4) (v := .d (.fl (.int .i64 0))) rfl (og rfl (op_assign rfl rfl rfl)) ?_
  refine rg_done rfl ?_
  refine a_seq ?_
  refine a_rseq ?_
  refine rg_put (d := 6) (v := .d (.sl 12 (List.map eCs l))) rfl (og rfl (op_move rfl rfl rfl)) ?_
  refine rg_put (d := 7) (v := .d (.fl (.int .i64 (l.length : Int)))) rfl (og rfl (s_len rfl Tryd.underlying68 rfl rfl)) ?_
  refine rg_put (d := 8) (v := .d (.fl (.int .i64 0))) rfl (og rfl (op_move rfl rfl rfl)) ?_
  refine rg_done rfl ?_
  refine a_block ?_
  refine a_loop (ι := Nat) (fun k => SS [(0, .d (.sl 12 (List.map eCs l))), (1, .d (.fn 46 [.el [.fl (.string id)]])), (7, .d (.fl (.int .i64 (l.length : Int)))), (8, .d (.fl (.int .i64 (k : Int))))] []) (fun k => k ≤ l.length ∧ ∀ q, q < k → sEq (ix l q).id id = false) (fun k => l.length - k) 0 (⟨by omega, fun q h => by omega⟩) (imp_forget rfl ⟨rfl, rfl, rfl, (by first | rfl | exact ci (by omega) | exact ci (by simp) | exact cd (by simp) | simp), trivial⟩ trivial) (fun k hok => ?_)
  obtain ⟨hkk, hq⟩ := hok
  refine a_rseq ?_
  refine rg_put (d := 9) (v := .d (.fl (.bool ((decide ((k : Int) < (l.length : Int))))))) rfl (og rfl (op_bin rfl rfl rfl (b_lss _ _ _ _) rfl)) ?_
  refine rg_done rfl ?_
  refine a_seq ?_
  refine a_cond rfl (fun h1 => ?_) (fun h1 => ?_)
  · skip
    have h2 := t_dec h1
    refine a_skip ?_
    show A _ _ _ _ _ _ _
    refine a_seq ?_
    refine a_block ?_
    refine a_rseq ?_
    refine rg_put (d := 10) (v := .d (.fl (.int .i64 (k : Int)))) rfl (og rfl (op_move rfl rfl rfl)) ?_
    refine rg_put (d := 5) (v := .d (.fl (.int .i64 (k : Int)))) rfl (og rfl (op_assign rfl rfl rfl)) ?_
    refine rg_done rfl ?_
    refine a_rseq ?_
    refine rg_put (d := 11) (v := .d (.fn 46 [.el [.fl (.string id)]])) rfl (og rfl (op_move rfl rfl rfl)) ?_
    refine rg_put (d := 12) (v := .d (.sl 12 (List.map eCs l))) rfl (og rfl (op_move rfl rfl rfl)) ?_
    refine rg_put (d := 13) (v := .d (.fl (.int .i64 (k : Int)))) rfl (og rfl (op_move rfl rfl rfl)) ?_
    refine rg_put (d := 14) (v := .el ((eCs (ix l k)))) rfl (og rfl (s_index rfl Tryd.underlying68 ti102 rfl rfl (by omega) (row_at (by omega)) rfl)) ?_
    refine rg_put (d := 15) (v := .d (.ag (eCs (ix l k)))) rfl (og rfl (of_eff (s_load_els rfl Tryd.underlying102 rfl ti102 rfl rfl rfl) rfl)) ?_
    refine rg_put (d := 16) (v := .d (.fl (.bool ((sEq (ix l k).id id))))) rfl (og rfl (op_callV rfl rfl ⟨_, Tryd.func46, nm46, rfl⟩ (.cons rfl (.d _) .nil) (clCase (ix l k) id) rfl)) ?_
    refine rg_done rfl ?_
    refine a_cond rfl (fun h3 => ?_) (fun h3 => ?_)
    · skip
      refine a_rseq ?_
      refine rg_put (d := 17) (v := .d (.fl (.int .i64 (k : Int)))) rfl (og rfl (op_move rfl rfl rfl)) ?_
      refine rg_put (d := 4) (v := .d (.fl (.int .i64 (k : Int)))) rfl (og rfl (op_assign rfl rfl rfl)) ?_
      refine rg_done rfl ?_
      refine a_ret ?_
      show ∃ ds, ResL _ _ _ ds ∧ RV.of ds = _
      refine ⟨[.fl (.int .i64 (k : Int))], (.cons (.tmp rfl (.d _)) .nil), ?_⟩
      have hu : idx (fun y : Cs => sEq y.id id) l = (k : Int) := idx_at (by omega) hq h3
      rw [hu]; rfl
    · skip
      refine a_skip ?_
      show A _ _ _ _ _ _ _
      refine a_region ?_
      refine rg_put (d := 18) (v := .d (.fl (.int .i64 (((k : Int) + 1))))) rfl (og rfl (op_bin rfl rfl rfl (fun x y w => b_add64 _ _ _ x y w (by omega)) rfl)) ?_
      refine rg_put (d := 8) (v := .d (.fl (.int .i64 (((k : Int) + 1))))) rfl (og rfl (op_move rfl rfl rfl)) ?_
      refine rg_done rfl ?_
      have hx : sEq (ix l k).id id = false := h3
      show ∃ i, _ ∧ _ ∧ Imp _ _ _ _ _
      refine ⟨k + 1, ⟨by omega, fun q h => (Nat.lt_succ_iff_lt_or_eq.1 h).elim (hq q) (fun e => by rw [e]; exact hx)⟩, by omega, imp_forget rfl ⟨rfl, rfl, rfl, (by first | rfl | exact ci (by omega) | exact ci (by simp) | exact cd (by simp) | simp), trivial⟩ trivial⟩
  · skip
    have h4 := f_dec h1
    refine a_exit ?_
    show A _ _ _ _ _ _ _
    refine a_rseq ?_
    refine rg_put (d := 4) (v := .d (.fl (.int .i64 (-1)))) rfl (og rfl (op_assign rfl rfl rfl)) ?_
    refine rg_done rfl ?_
    refine a_ret ?_
    show ∃ ds, ResL _ _ _ ds ∧ RV.of ds = _
    refine ⟨[.fl (.int .i64 (-1))], (.cons (.tmp rfl (.d _)) .nil), ?_⟩
    have hu : idx (fun y : Cs => sEq y.id id) l = -1 := idx_no (fun q h => hq q (by omega))
    rw [hu]; rfl
set_option maxHeartbeats 4000000 in
set_option maxRecDepth 100000 in
theorem clAccount (y : Ac) (id : ByteArray) : Ctr Tryd.prog 93 [.ag (eAc y), .el [.fl (.string id)]] (.d (.fl (.bool (sEq y.name id)))) := by
  refine ctr (n := 8) (rs := #[.tmp 3]) (L := [(0, .d (.ag (eAc y))), (1, .el [.fl (.string id)])]) Tryd.func93 rfl rfl rfl rfl rfl (fun w0 U0 => ?_)
  refine a_rseq ?_
  refine rg_nam (d := 2) (v := .pt 101 0) (m := 101) (nw := [(101, .bx 115 (eAc y))]) rfl (og rfl (of_eff (op_box 101 rfl rfl rfl rfl) rfl)) rfl ?_
  refine rg_put (d := 3) (v := .d (.fl (.bool false))) rfl (og rfl (op_assign rfl rfl rfl)) ?_
  refine rg_done rfl ?_
  refine a_rseq ?_
  refine rg_put (d := 4) (v := .pt 101 0) rfl (og rfl (of_eff (s_field_pt rfl Tryd.underlying115 rfl ti9 rfl rfl rfl) rfl)) ?_
  refine rg_put (d := 5) (v := .d (.fl (.string y.name))) rfl (og rfl (op_load_pt rfl Tryd.underlying9 rfl rfl rfl rfl rfl)) ?_
  refine rg_put (d := 6) (v := .d (.fl (.string id))) rfl (og rfl (op_load_el rfl Tryd.underlying9 rfl rfl rfl rfl)) ?_
  refine rg_put (d := 7) (v := .d (.fl (.bool (sEq y.name id)))) rfl (og rfl (op_bin rfl rfl rfl (b_seq _ _ _) rfl)) ?_
  refine rg_put (d := 3) (v := .d (.fl (.bool (sEq y.name id)))) rfl (og rfl (op_assign rfl rfl rfl)) ?_
  refine rg_done rfl ?_
  refine a_ret ?_
  show ∃ ds, ResL _ _ _ ds ∧ RV.of ds = _
  refine ⟨[.fl (.bool (sEq y.name id))], (.cons (.tmp rfl (.d _)) .nil), ?_⟩
  rfl
set_option maxHeartbeats 4000000 in
set_option maxRecDepth 100000 in
theorem ixAccount (l : List Ac) (id : ByteArray) (hl : l.length ≤ 1000) : Ctr Tryd.prog 92 [.sl 9 (List.map eAc l), .fn 93 [.el [.fl (.string id)]]] (.d (.fl (.int .i64 (idx (fun y : Ac => sEq y.name id) l)))) := by
  refine ctr (n := 19) (rs := #[.tmp 4]) (L := [(0, .d (.sl 9 (List.map eAc l))), (1, .d (.fn 93 [.el [.fl (.string id)]]))]) Tryd.func92 rfl rfl rfl rfl rfl (fun w0 U0 => ?_)
  refine a_rseq ?_
  refine rg_put (d := 4) (v := .d (.fl (.int .i64 0))) rfl (og rfl (op_assign rfl rfl rfl)) ?_
  refine rg_done rfl ?_
  refine a_seq ?_
  refine a_rseq ?_
  refine rg_put (d := 6) (v := .d (.sl 9 (List.map eAc l))) rfl (og rfl (op_move rfl rfl rfl)) ?_
  refine rg_put (d := 7) (v := .d (.fl (.int .i64 (l.length : Int)))) rfl (og rfl (s_len rfl Tryd.underlying46 rfl rfl)) ?_
  refine rg_put (d := 8) (v := .d (.fl (.int .i64 0))) rfl (og rfl (op_move rfl rfl rfl)) ?_
  refine rg_done rfl ?_
  refine a_block ?_
  refine a_loop (ι := Nat) (fun k => SS [(0, .d (.sl 9 (List.map eAc l))), (1, .d (.fn 93 [.el [.fl (.string id)]])), (7, .d (.fl (.int .i64 (l.length : Int)))), (8, .d (.fl (.int .i64 (k : Int))))] []) (fun k => k ≤ l.length ∧ ∀ q, q < k → sEq (ix l q).name id = false) (fun k => l.length - k) 0 (⟨by omega, fun q h => by omega⟩) (imp_forget rfl ⟨rfl, rfl, rfl, (by first | rfl | exact ci (by omega) | exact ci (by simp) | exact cd (by simp) | simp), trivial⟩ trivial) (fun k hok => ?_)
  obtain ⟨hkk, hq⟩ := hok
  refine a_rseq ?_
  refine rg_put (d := 9) (v := .d (.fl (.bool ((decide ((k : Int) < (l.length : Int))))))) rfl (og rfl (op_bin rfl rfl rfl (b_lss _ _ _ _) rfl)) ?_
  refine rg_done rfl ?_
  refine a_seq ?_
  refine a_cond rfl (fun h1 => ?_) (fun h1 => ?_)
  · skip
    have h2 := t_dec h1
    refine a_skip ?_
    show A _ _ _ _ _ _ _
    refine a_seq ?_
    refine a_block ?_
    refine a_rseq ?_
    refine rg_put (d := 10) (v := .d (.fl (.int .i64 (k : Int)))) rfl (og rfl (op_move rfl rfl rfl)) ?_
    refine rg_put (d := 5) (v := .d (.fl (.int .i64 (k : Int)))) rfl (og rfl (op_assign rfl rfl rfl)) ?_
    refine rg_done rfl ?_
    refine a_rseq ?_
    refine rg_put (d := 11) (v := .d (.fn 93 [.el [.fl (.string id)]])) rfl (og rfl (op_move rfl rfl rfl)) ?_
    refine rg_put (d := 12) (v := .d (.sl 9 (List.map eAc l))) rfl (og rfl (op_move rfl rfl rfl)) ?_
    refine rg_put (d := 13) (v := .d (.fl (.int .i64 (k : Int)))) rfl (og rfl (op_move rfl rfl rfl)) ?_
    refine rg_put (d := 14) (v := .el ((eAc (ix l k)))) rfl (og rfl (s_index rfl Tryd.underlying46 ti115 rfl rfl (by omega) (row_at (by omega)) rfl)) ?_
    refine rg_put (d := 15) (v := .d (.ag (eAc (ix l k)))) rfl (og rfl (of_eff (s_load_els rfl Tryd.underlying115 rfl ti115 rfl rfl rfl) rfl)) ?_
    refine rg_put (d := 16) (v := .d (.fl (.bool ((sEq (ix l k).name id))))) rfl (og rfl (op_callV rfl rfl ⟨_, Tryd.func93, nm93, rfl⟩ (.cons rfl (.d _) .nil) (clAccount (ix l k) id) rfl)) ?_
    refine rg_done rfl ?_
    refine a_cond rfl (fun h3 => ?_) (fun h3 => ?_)
    · skip
      refine a_rseq ?_
      refine rg_put (d := 17) (v := .d (.fl (.int .i64 (k : Int)))) rfl (og rfl (op_move rfl rfl rfl)) ?_
      refine rg_put (d := 4) (v := .d (.fl (.int .i64 (k : Int)))) rfl (og rfl (op_assign rfl rfl rfl)) ?_
      refine rg_done rfl ?_
      refine a_ret ?_
      show ∃ ds, ResL _ _ _ ds ∧ RV.of ds = _
      refine ⟨[.fl (.int .i64 (k : Int))], (.cons (.tmp rfl (.d _)) .nil), ?_⟩
      have hu : idx (fun y : Ac => sEq y.name id) l = (k : Int) := idx_at (by omega) hq h3
      rw [hu]; rfl
    · skip
      refine a_skip ?_
      show A _ _ _ _ _ _ _
      refine a_region ?_
      refine rg_put (d := 18) (v := .d (.fl (.int .i64 (((k : Int) + 1))))) rfl (og rfl (op_bin rfl rfl rfl (fun x y w => b_add64 _ _ _ x y w (by omega)) rfl)) ?_
      refine rg_put (d := 8) (v := .d (.fl (.int .i64 (((k : Int) + 1))))) rfl (og rfl (op_move rfl rfl rfl)) ?_
      refine rg_done rfl ?_
      have hx : sEq (ix l k).name id = false := h3
      show ∃ i, _ ∧ _ ∧ Imp _ _ _ _ _
      refine ⟨k + 1, ⟨by omega, fun q h => (Nat.lt_succ_iff_lt_or_eq.1 h).elim (hq q) (fun e => by rw [e]; exact hx)⟩, by omega, imp_forget rfl ⟨rfl, rfl, rfl, (by first | rfl | exact ci (by omega) | exact ci (by simp) | exact cd (by simp) | simp), trivial⟩ trivial⟩
  · skip
    have h4 := f_dec h1
    refine a_exit ?_
    show A _ _ _ _ _ _ _
    refine a_rseq ?_
    refine rg_put (d := 4) (v := .d (.fl (.int .i64 (-1)))) rfl (og rfl (op_assign rfl rfl rfl)) ?_
    refine rg_done rfl ?_
    refine a_ret ?_
    show ∃ ds, ResL _ _ _ ds ∧ RV.of ds = _
    refine ⟨[.fl (.int .i64 (-1))], (.cons (.tmp rfl (.d _)) .nil), ?_⟩
    have hu : idx (fun y : Ac => sEq y.name id) l = -1 := idx_no (fun q h => hq q (by omega))
    rw [hu]; rfl
set_option maxHeartbeats 4000000 in
set_option maxRecDepth 100000 in
theorem case17 (s : Sa) (id : ByteArray) (hQ : OkQ s) : CtrK Tryd.prog KK 17 [.ag (eSa s), .fl (.string id)] (.tu [.fl (.string (ceS s id).1), .fl (.int .i64 (ceS s id).2)]) := by
  have hl0 := hQ.len
  refine ctrK (n := 75) (rs := #[.tmp 4, .tmp 5]) (L := [(0, .d (.ag (eSa s))), (1, .d (.fl (.string id)))]) Tryd.func17 rfl rfl rfl rfl rfl (fun w0 U0 hG => ?_)
  refine a_rseq ?_
  refine rg_nam (d := 2) (v := .pt 101 0) (m := 101) (nw := [(101, .bx 70 (eSa s))]) rfl (og rfl (of_eff (op_box 101 rfl rfl rfl rfl) rfl)) rfl ?_
  refine rg_nam (d := 3) (v := .pt 102 0) (m := 102) (nw := [(102, .bx 9 [.fl (.string id)])]) rfl (og rfl (of_eff (op_box 102 rfl rfl rfl rfl) rfl)) rfl ?_
  refine rg_put (d := 4) (v := .d (.fl (.string (⟨#[]⟩)))) rfl (og rfl (op_assign rfl rfl rfl)) ?_
  refine rg_put (d := 5) (v := .d (.fl (.int .i64 0))) rfl (og rfl (op_assign rfl rfl rfl)) ?_
  refine rg_done rfl ?_
  refine a_rseq ?_
  refine rg_imp (imp_freeze 3 102 rfl rfl) ?_
  refine rg_put (d := 11) (v := .pt 101 37) rfl (og rfl (of_eff (s_field_pt rfl Tryd.underlying70 rfl ti68 rfl rfl rfl) rfl)) ?_
  refine rg_put (d := 12) (v := .d (.sl 12 (List.map eCs s.cases))) rfl (og rfl (op_load_pt rfl Tryd.underlying68 rfl rfl rfl rfl rfl)) ?_
  refine rg_put (d := 13) (v := .d (.fn 46 [.el [.fl (.string id)]])) rfl (og rfl (op_mkfn rfl (.cons rfl .nil) rfl)) ?_
  refine rg_put (d := 14) (v := .d (.fl (.int .i64 ((idx (fun y : Cs => sEq y.id id) s.cases))))) rfl (og rfl (op_call rfl Tryd.func45 nm45 rfl (.cons rfl (.d _) (.cons rfl (.d _) .nil)) (ixCase s.cases id (by omega)) rfl)) ?_
  refine rg_put (d := 6) (v := .d (.fl (.int .i64 ((idx (fun y : Cs => sEq y.id id) s.cases))))) rfl (og rfl (op_assign rfl rfl rfl)) ?_
  refine rg_done rfl ?_
  refine a_seq ?_
  refine a_rseq ?_
  refine rg_put (d := 15) (v := .d (.fl (.int .i64 ((idx (fun y : Cs => sEq y.id id) s.cases))))) rfl (og rfl (op_move rfl rfl rfl)) ?_
  refine rg_put (d := 16) (v := .d (.fl (.bool ((decide ((idx (fun y : Cs => sEq y.id id) s.cases) < 0)))))) rfl (og rfl (op_bin rfl rfl rfl (b_lss _ _ _ _) rfl)) ?_
  refine rg_done rfl ?_
  refine a_cond rfl (fun h1 => ?_) (fun h1 => ?_)
  · skip
    have h2 := t_dec h1
    refine a_rseq ?_
    refine rg_put (d := 4) (v := .d (.fl (.string (⟨#[]⟩)))) rfl (og rfl (op_assign rfl rfl rfl)) ?_
    refine rg_put (d := 5) (v := .d (.fl (.int .i64 28))) rfl (og rfl (op_assign rfl rfl rfl)) ?_
    refine rg_done rfl ?_
    refine a_ret ?_
    show ∃ ds, ResL _ _ _ ds ∧ RV.of ds = _
    refine ⟨[.fl (.string (⟨#[]⟩)), .fl (.int .i64 28)], (.cons (.tmp rfl (.d _)) (.cons (.tmp rfl (.d _)) .nil)), ?_⟩
    rw [ceS_no h1]; rfl
  · skip
    have h3 := f_dec h1
    refine a_skip ?_
    show A _ _ _ _ _ _ _
    refine a_rseq ?_
    have hci := idx_in (fun y : Cs => sEq y.id id) s.cases
    have hX := hQ.cs (idx (fun y : Cs => sEq y.id id) s.cases).toNat (by omega)
    have x1 := hX.id
    have x2 := hX.plate
    have x3 := hX.key
    refine rg_put (d := 17) (v := .pt 101 37) rfl (og rfl (of_eff (s_field_pt rfl Tryd.underlying70 rfl ti68 rfl rfl rfl) rfl)) ?_
    refine rg_put (d := 18) (v := .d (.sl 12 (List.map eCs s.cases))) rfl (og rfl (op_load_pt rfl Tryd.underlying68 rfl rfl rfl rfl rfl)) ?_
    refine rg_put (d := 19) (v := .d (.fl (.int .i64 ((idx (fun y : Cs => sEq y.id id) s.cases))))) rfl (og rfl (op_move rfl rfl rfl)) ?_
    refine rg_put (d := 20) (v := .el ((eCs ((ix s.cases ((idx (fun y : Cs => sEq y.id id) s.cases)).toNat))))) rfl (og rfl (s_index rfl Tryd.underlying68 ti102 rfl rfl (by omega) (row_atI (by omega) (by omega)) rfl)) ?_
    refine rg_put (d := 21) (v := .d (.ag (eCs (((ix s.cases ((idx (fun y : Cs => sEq y.id id) s.cases)).toNat)))))) rfl (og rfl (of_eff (s_load_els rfl Tryd.underlying102 rfl ti102 rfl rfl rfl) rfl)) ?_
    refine rg_nam (d := 7) (v := .pt 103 0) (m := 103) (nw := [(103, .bx 102 ([.fl (.string (⟨#[]⟩)), .fl (.string (⟨#[]⟩)), .fl (.string (⟨#[]⟩)), .fl (.int .i64 0), .fl (.int .i64 0), .fl (.int .i64 0), .fl (.int .i64 0), .fl (.int .i64 0), .fl (.int .i64 0), .fl (.int .i64 0), .fl (.int .i64 0), .fl (.int .i64 0)]))]) rfl (og rfl (of_eff (s_alloc 103 rfl ti102 (by kernel_rfl) rfl) rfl)) rfl ?_
    refine rg_sto (nw := [(103, .bx 102 ((eCs (((ix s.cases ((idx (fun y : Cs => sEq y.id id) s.cases)).toNat))))))]) rfl (og rfl (of_eff (s_store rfl rfl ti102 rfl rfl rfl rfl rfl rfl) rfl)) ?_
    refine rg_done rfl ?_
    refine a_rseq ?_
    refine rg_put (d := 8) (v := .d (.fl (.string (⟨#[45]⟩)))) rfl (og rfl (op_assign rfl rfl rfl)) ?_
    refine rg_done rfl ?_
    refine a_seq ?_
    refine a_rseq ?_
    refine rg_put (d := 23) (v := .pt 101 0) rfl (og rfl (of_eff (s_field_pt rfl Tryd.underlying70 rfl ti52 rfl rfl rfl) rfl)) ?_
    refine rg_put (d := 24) (v := .pt 101 20) rfl (og rfl (of_eff (s_field_pt rfl Tryd.underlying52 rfl ti49 rfl rfl rfl) rfl)) ?_
    refine rg_put (d := 25) (v := .d (.ag (eLw s.cfg.law))) rfl (og rfl (of_eff (s_load_pts rfl Tryd.underlying49 rfl ti49 rfl rfl rfl rfl) rfl)) ?_
    refine rg_put (d := 26) (v := .pt 101 0) rfl (og rfl (of_eff (s_field_pt rfl Tryd.underlying70 rfl ti52 rfl rfl rfl) rfl)) ?_
    refine rg_put (d := 27) (v := .pt 101 19) rfl (og rfl (of_eff (s_field_pt rfl Tryd.underlying52 rfl ti39 rfl rfl rfl) rfl)) ?_
    refine rg_put (d := 28) (v := .d (.sl 1 (List.map (rI .i64) s.cfg.hol))) rfl (og rfl (op_load_pt rfl Tryd.underlying39 rfl rfl rfl rfl rfl)) ?_
    refine rg_put (d := 29) (v := .d (.ag (eCs ((((ix s.cases ((idx (fun y : Cs => sEq y.id id) s.cases)).toNat))))))) rfl (og rfl (of_eff (s_load_pts rfl Tryd.underlying102 rfl ti102 rfl rfl rfl rfl) rfl)) ?_
    refine rg_put (d := 30) (v := .tu [.fl (.int .i64 ((du s.cfg.law s.cfg.hol ((((ix s.cases ((idx (fun y : Cs => sEq y.id id) s.cases)).toNat))))).1)), .fl (.bool ((du s.cfg.law s.cfg.hol ((((ix s.cases ((idx (fun y : Cs => sEq y.id id) s.cases)).toNat))))).2))]) rfl (og rfl (op_call rfl Tryd.func47 nm47 rfl (.cons rfl (.d _) (.cons rfl (.d _) (.cons rfl (.d _) .nil))) (du19 s.cfg.law s.cfg.hol ((((ix s.cases ((idx (fun y : Cs => sEq y.id id) s.cases)).toNat)))) hQ.hol) rfl)) ?_
    refine rg_put (d := 22) (v := .tu [.fl (.int .i64 ((du s.cfg.law s.cfg.hol ((((ix s.cases ((idx (fun y : Cs => sEq y.id id) s.cases)).toNat))))).1)), .fl (.bool ((du s.cfg.law s.cfg.hol ((((ix s.cases ((idx (fun y : Cs => sEq y.id id) s.cases)).toNat))))).2))]) rfl (og rfl (op_move rfl rfl rfl)) ?_
    refine rg_put (d := 31) (v := .d (.fl (.int .i64 ((du s.cfg.law s.cfg.hol ((((ix s.cases ((idx (fun y : Cs => sEq y.id id) s.cases)).toNat))))).1)))) rfl (og rfl (op_extract rfl rfl rfl rfl)) ?_
    refine rg_put (d := 32) (v := .d (.fl (.bool ((du s.cfg.law s.cfg.hol ((((ix s.cases ((idx (fun y : Cs => sEq y.id id) s.cases)).toNat))))).2)))) rfl (og rfl (op_extract rfl rfl rfl rfl)) ?_
    refine rg_put (d := 9) (v := .d (.fl (.int .i64 ((du s.cfg.law s.cfg.hol ((((ix s.cases ((idx (fun y : Cs => sEq y.id id) s.cases)).toNat))))).1)))) rfl (og rfl (op_assign rfl rfl rfl)) ?_
    refine rg_put (d := 10) (v := .d (.fl (.bool ((du s.cfg.law s.cfg.hol ((((ix s.cases ((idx (fun y : Cs => sEq y.id id) s.cases)).toNat))))).2)))) rfl (og rfl (op_assign rfl rfl rfl)) ?_
    refine rg_done rfl ?_
    refine a_rseq ?_
    refine rg_put (d := 33) (v := .d (.fl (.bool ((du s.cfg.law s.cfg.hol ((((ix s.cases ((idx (fun y : Cs => sEq y.id id) s.cases)).toNat))))).2)))) rfl (og rfl (op_move rfl rfl rfl)) ?_
    refine rg_done rfl ?_
    refine a_cond rfl (fun h4 => ?_) (fun h4 => ?_)
    · skip
      refine a_region ?_
      refine rg_put (d := 34) (v := .d (.fl (.int .i64 ((du s.cfg.law s.cfg.hol ((((ix s.cases ((idx (fun y : Cs => sEq y.id id) s.cases)).toNat))))).1)))) rfl (og rfl (op_move rfl rfl rfl)) ?_
      refine rg_put (d := 35) (v := .d (.fl (.string ((dtS ((du s.cfg.law s.cfg.hol ((((ix s.cases ((idx (fun y : Cs => sEq y.id id) s.cases)).toNat))))).1)))))) rfl (og rfl (op_callK kkst hG rfl Tryd.func33 nm33 rfl (.cons rfl (.d _) .nil) (date36 ((du s.cfg.law s.cfg.hol ((((ix s.cases ((idx (fun y : Cs => sEq y.id id) s.cases)).toNat))))).1)) rfl)) ?_
      refine rg_put (d := 8) (v := .d (.fl (.string ((dtS ((du s.cfg.law s.cfg.hol ((((ix s.cases ((idx (fun y : Cs => sEq y.id id) s.cases)).toNat))))).1)))))) rfl (og rfl (op_assign rfl rfl rfl)) ?_
      refine rg_done rfl ?_
      show A _ _ _ _ _ _ _
      refine a_dseq (by kernel_rfl) ?_
      refine dr_put (d := 36) (v := .pt 103 0) rfl (og rfl (of_eff (s_field_pt rfl Tryd.underlying102 rfl ti9 rfl rfl rfl) rfl)) ?_
      refine dr_put (d := 37) (v := .d (.fl (.string ((((ix s.cases ((idx (fun y : Cs => sEq y.id id) s.cases)).toNat))).id)))) rfl (og rfl (op_load_pt rfl Tryd.underlying9 rfl rfl rfl rfl rfl)) ?_
      refine dr_put (d := 38) (v := .d (.fl (.string ((es ((((ix s.cases ((idx (fun y : Cs => sEq y.id id) s.cases)).toNat))).id)))))) rfl (og rfl (op_call rfl Tryd.func24 nm24 rfl (.cons rfl (.d _) .nil) (es27 ((((ix s.cases ((idx (fun y : Cs => sEq y.id id) s.cases)).toNat))).id) (by omega)) rfl)) ?_
      refine dr_put (d := 39) (v := .pt 103 1) rfl (og rfl (of_eff (s_field_pt rfl Tryd.underlying102 rfl ti9 rfl rfl rfl) rfl)) ?_
      refine dr_put (d := 40) (v := .d (.fl (.string ((((ix s.cases ((idx (fun y : Cs => sEq y.id id) s.cases)).toNat))).plate)))) rfl (og rfl (op_load_pt rfl Tryd.underlying9 rfl rfl rfl rfl rfl)) ?_
      refine dr_put (d := 41) (v := .d (.fl (.string ((es ((((ix s.cases ((idx (fun y : Cs => sEq y.id id) s.cases)).toNat))).plate)))))) rfl (og rfl (op_call rfl Tryd.func24 nm24 rfl (.cons rfl (.d _) .nil) (es27 ((((ix s.cases ((idx (fun y : Cs => sEq y.id id) s.cases)).toNat))).plate) (by omega)) rfl)) ?_
      refine dr_put (d := 42) (v := .pt 103 2) rfl (og rfl (of_eff (s_field_pt rfl Tryd.underlying102 rfl ti9 rfl rfl rfl) rfl)) ?_
      refine dr_put (d := 43) (v := .d (.fl (.string ((((ix s.cases ((idx (fun y : Cs => sEq y.id id) s.cases)).toNat))).key)))) rfl (og rfl (op_load_pt rfl Tryd.underlying9 rfl rfl rfl rfl rfl)) ?_
      refine dr_put (d := 44) (v := .d (.fl (.string ((es ((((ix s.cases ((idx (fun y : Cs => sEq y.id id) s.cases)).toNat))).key)))))) rfl (og rfl (op_call rfl Tryd.func24 nm24 rfl (.cons rfl (.d _) .nil) (es27 ((((ix s.cases ((idx (fun y : Cs => sEq y.id id) s.cases)).toNat))).key) (by omega)) rfl)) ?_
      refine dr_put (d := 45) (v := .d (.sl 1 (List.map rS ([⟨#[99, 97, 115, 101]⟩, (es ((((ix s.cases ((idx (fun y : Cs => sEq y.id id) s.cases)).toNat))).id)), (es ((((ix s.cases ((idx (fun y : Cs => sEq y.id id) s.cases)).toNat))).plate)), (es ((((ix s.cases ((idx (fun y : Cs => sEq y.id id) s.cases)).toNat))).key))])))) rfl (og rfl (of_eff (op_slices rfl Tryd.underlying98 ti9 rfl rfl rfl (by kernel_rfl) (xs := [.fl (.string (⟨#[99, 97, 115, 101]⟩)), .fl (.string ((es ((((ix s.cases ((idx (fun y : Cs => sEq y.id id) s.cases)).toNat))).id)))), .fl (.string ((es ((((ix s.cases ((idx (fun y : Cs => sEq y.id id) s.cases)).toNat))).plate)))), .fl (.string ((es ((((ix s.cases ((idx (fun y : Cs => sEq y.id id) s.cases)).toNat))).key))))]) rfl rfl (.cons rfl rfl (.d _) rfl rfl rfl (.cons rfl rfl (.d _) rfl rfl rfl (.cons rfl rfl (.d _) rfl rfl rfl (.cons rfl rfl (.d _) rfl rfl rfl .nil)))) rfl) rfl)) ?_
      refine dr_put (d := 46) (v := .d (.fl (.string ((ln ([⟨#[99, 97, 115, 101]⟩, (es ((((ix s.cases ((idx (fun y : Cs => sEq y.id id) s.cases)).toNat))).id)), (es ((((ix s.cases ((idx (fun y : Cs => sEq y.id id) s.cases)).toNat))).plate)), (es ((((ix s.cases ((idx (fun y : Cs => sEq y.id id) s.cases)).toNat))).key))])))))) rfl (og rfl (op_call rfl Tryd.func23 nm23 rfl (.cons rfl (.d _) .nil) (ln26 ([⟨#[99, 97, 115, 101]⟩, (es ((((ix s.cases ((idx (fun y : Cs => sEq y.id id) s.cases)).toNat))).id)), (es ((((ix s.cases ((idx (fun y : Cs => sEq y.id id) s.cases)).toNat))).plate)), (es ((((ix s.cases ((idx (fun y : Cs => sEq y.id id) s.cases)).toNat))).key))]) (Nat.le_trans (c1_jn hX) (by decide))) rfl)) ?_
      refine dr_put (d := 47) (v := .pt 103 5) rfl (og rfl (of_eff (s_field_pt rfl Tryd.underlying102 rfl ti3 rfl rfl rfl) rfl)) ?_
      refine dr_put (d := 48) (v := .d (.fl (.int .i64 ((((ix s.cases ((idx (fun y : Cs => sEq y.id id) s.cases)).toNat))).stage)))) rfl (og rfl (op_load_pt rfl Tryd.underlying3 rfl rfl rfl rfl rfl)) ?_
      refine dr_put (d := 49) (v := .d (.fl (.string ((wd stw ((((ix s.cases ((idx (fun y : Cs => sEq y.id id) s.cases)).toNat))).stage)))))) rfl (og rfl (op_callK kkst hG rfl Tryd.func49 nm49 rfl (.cons rfl (.d _) .nil) (st49 ((((ix s.cases ((idx (fun y : Cs => sEq y.id id) s.cases)).toNat))).stage)) rfl)) ?_
      refine dr_put (d := 50) (v := .pt 103 4) rfl (og rfl (of_eff (s_field_pt rfl Tryd.underlying102 rfl ti3 rfl rfl rfl) rfl)) ?_
      refine dr_put (d := 51) (v := .d (.fl (.int .i64 ((((ix s.cases ((idx (fun y : Cs => sEq y.id id) s.cases)).toNat))).since)))) rfl (og rfl (op_load_pt rfl Tryd.underlying3 rfl rfl rfl rfl rfl)) ?_
      refine dr_put (d := 52) (v := .d (.fl (.string ((dtS ((((ix s.cases ((idx (fun y : Cs => sEq y.id id) s.cases)).toNat))).since)))))) rfl (og rfl (op_callK kkst hG rfl Tryd.func33 nm33 rfl (.cons rfl (.d _) .nil) (date36 ((((ix s.cases ((idx (fun y : Cs => sEq y.id id) s.cases)).toNat))).since)) rfl)) ?_
      refine dr_put (d := 53) (v := .d (.sl 1 (List.map rS ([⟨#[115, 116, 97, 103, 101]⟩, (wd stw ((((ix s.cases ((idx (fun y : Cs => sEq y.id id) s.cases)).toNat))).stage)), (dtS ((((ix s.cases ((idx (fun y : Cs => sEq y.id id) s.cases)).toNat))).since))])))) rfl (og rfl (of_eff (op_slices rfl Tryd.underlying98 ti9 rfl rfl rfl (by kernel_rfl) (xs := [.fl (.string (⟨#[115, 116, 97, 103, 101]⟩)), .fl (.string ((wd stw ((((ix s.cases ((idx (fun y : Cs => sEq y.id id) s.cases)).toNat))).stage)))), .fl (.string ((dtS ((((ix s.cases ((idx (fun y : Cs => sEq y.id id) s.cases)).toNat))).since))))]) rfl rfl (.cons rfl rfl (.d _) rfl rfl rfl (.cons rfl rfl (.d _) rfl rfl rfl (.cons rfl rfl (.d _) rfl rfl rfl .nil))) rfl) rfl)) ?_
      refine dr_put (d := 54) (v := .d (.fl (.string ((ln ([⟨#[115, 116, 97, 103, 101]⟩, (wd stw ((((ix s.cases ((idx (fun y : Cs => sEq y.id id) s.cases)).toNat))).stage)), (dtS ((((ix s.cases ((idx (fun y : Cs => sEq y.id id) s.cases)).toNat))).since))])))))) rfl (og rfl (op_call rfl Tryd.func23 nm23 rfl (.cons rfl (.d _) .nil) (ln26 ([⟨#[115, 116, 97, 103, 101]⟩, (wd stw ((((ix s.cases ((idx (fun y : Cs => sEq y.id id) s.cases)).toNat))).stage)), (dtS ((((ix s.cases ((idx (fun y : Cs => sEq y.id id) s.cases)).toNat))).since))]) (Nat.le_trans (c2_jn _) (by decide))) rfl)) ?_
      refine dr_put (d := 55) (v := .pt 103 6) rfl (og rfl (of_eff (s_field_pt rfl Tryd.underlying102 rfl ti3 rfl rfl rfl) rfl)) ?_
      refine dr_put (d := 56) (v := .d (.fl (.int .i64 ((((ix s.cases ((idx (fun y : Cs => sEq y.id id) s.cases)).toNat))).owed)))) rfl (og rfl (op_load_pt rfl Tryd.underlying3 rfl rfl rfl rfl rfl)) ?_
      refine dr_put (d := 57) (v := .d (.fl (.string ((sh ((((ix s.cases ((idx (fun y : Cs => sEq y.id id) s.cases)).toNat))).owed)))))) rfl (og rfl (op_callK kkst hG rfl Tryd.func26 nm26 rfl (.cons rfl (.d _) .nil) (sh29 ((((ix s.cases ((idx (fun y : Cs => sEq y.id id) s.cases)).toNat))).owed) hX.owed) rfl)) ?_
      refine dr_put (d := 58) (v := .d (.sl 1 (List.map rS ([⟨#[111, 119, 101, 100]⟩, (sh ((((ix s.cases ((idx (fun y : Cs => sEq y.id id) s.cases)).toNat))).owed))])))) rfl (og rfl (of_eff (op_slices rfl Tryd.underlying98 ti9 rfl rfl rfl (by kernel_rfl) (xs := [.fl (.string (⟨#[111, 119, 101, 100]⟩)), .fl (.string ((sh ((((ix s.cases ((idx (fun y : Cs => sEq y.id id) s.cases)).toNat))).owed))))]) rfl rfl (.cons rfl rfl (.d _) rfl rfl rfl (.cons rfl rfl (.d _) rfl rfl rfl .nil)) rfl) rfl)) ?_
      refine dr_put (d := 59) (v := .d (.fl (.string ((ln ([⟨#[111, 119, 101, 100]⟩, (sh ((((ix s.cases ((idx (fun y : Cs => sEq y.id id) s.cases)).toNat))).owed))])))))) rfl (og rfl (op_call rfl Tryd.func23 nm23 rfl (.cons rfl (.d _) .nil) (ln26 ([⟨#[111, 119, 101, 100]⟩, (sh ((((ix s.cases ((idx (fun y : Cs => sEq y.id id) s.cases)).toNat))).owed))]) (Nat.le_trans (c3_jn (by decide) hX.owed) (by decide))) rfl)) ?_
      refine dr_put (d := 60) (v := .pt 103 7) rfl (og rfl (of_eff (s_field_pt rfl Tryd.underlying102 rfl ti3 rfl rfl rfl) rfl)) ?_
      refine dr_put (d := 61) (v := .d (.fl (.int .i64 ((((ix s.cases ((idx (fun y : Cs => sEq y.id id) s.cases)).toNat))).paid)))) rfl (og rfl (op_load_pt rfl Tryd.underlying3 rfl rfl rfl rfl rfl)) ?_
      refine dr_put (d := 62) (v := .d (.fl (.string ((sh ((((ix s.cases ((idx (fun y : Cs => sEq y.id id) s.cases)).toNat))).paid)))))) rfl (og rfl (op_callK kkst hG rfl Tryd.func26 nm26 rfl (.cons rfl (.d _) .nil) (sh29 ((((ix s.cases ((idx (fun y : Cs => sEq y.id id) s.cases)).toNat))).paid) hX.paid) rfl)) ?_
      refine dr_put (d := 63) (v := .d (.sl 1 (List.map rS ([⟨#[112, 97, 105, 100]⟩, (sh ((((ix s.cases ((idx (fun y : Cs => sEq y.id id) s.cases)).toNat))).paid))])))) rfl (og rfl (of_eff (op_slices rfl Tryd.underlying98 ti9 rfl rfl rfl (by kernel_rfl) (xs := [.fl (.string (⟨#[112, 97, 105, 100]⟩)), .fl (.string ((sh ((((ix s.cases ((idx (fun y : Cs => sEq y.id id) s.cases)).toNat))).paid))))]) rfl rfl (.cons rfl rfl (.d _) rfl rfl rfl (.cons rfl rfl (.d _) rfl rfl rfl .nil)) rfl) rfl)) ?_
      refine dr_put (d := 64) (v := .d (.fl (.string ((ln ([⟨#[112, 97, 105, 100]⟩, (sh ((((ix s.cases ((idx (fun y : Cs => sEq y.id id) s.cases)).toNat))).paid))])))))) rfl (og rfl (op_call rfl Tryd.func23 nm23 rfl (.cons rfl (.d _) .nil) (ln26 ([⟨#[112, 97, 105, 100]⟩, (sh ((((ix s.cases ((idx (fun y : Cs => sEq y.id id) s.cases)).toNat))).paid))]) (Nat.le_trans (c3_jn (by decide) hX.paid) (by decide))) rfl)) ?_
      refine dr_put (d := 65) (v := .d (.fl (.string ((dtS ((du s.cfg.law s.cfg.hol ((((ix s.cases ((idx (fun y : Cs => sEq y.id id) s.cases)).toNat))))).1)))))) rfl (og rfl (op_move rfl rfl rfl)) ?_
      refine dr_put (d := 66) (v := .d (.sl 1 (List.map rS ([⟨#[100, 117, 101]⟩, (dtS ((du s.cfg.law s.cfg.hol ((((ix s.cases ((idx (fun y : Cs => sEq y.id id) s.cases)).toNat))))).1))])))) rfl (og rfl (of_eff (op_slices rfl Tryd.underlying98 ti9 rfl rfl rfl (by kernel_rfl) (xs := [.fl (.string (⟨#[100, 117, 101]⟩)), .fl (.string ((dtS ((du s.cfg.law s.cfg.hol ((((ix s.cases ((idx (fun y : Cs => sEq y.id id) s.cases)).toNat))))).1))))]) rfl rfl (.cons rfl rfl (.d _) rfl rfl rfl (.cons rfl rfl (.d _) rfl rfl rfl .nil)) rfl) rfl)) ?_
      refine dr_put (d := 67) (v := .d (.fl (.string ((ln ([⟨#[100, 117, 101]⟩, (dtS ((du s.cfg.law s.cfg.hol ((((ix s.cases ((idx (fun y : Cs => sEq y.id id) s.cases)).toNat))))).1))])))))) rfl (og rfl (op_call rfl Tryd.func23 nm23 rfl (.cons rfl (.d _) .nil) (ln26 ([⟨#[100, 117, 101]⟩, (dtS ((du s.cfg.law s.cfg.hol ((((ix s.cases ((idx (fun y : Cs => sEq y.id id) s.cases)).toNat))))).1))]) (Nat.le_trans (c5_jn (by decide) (Nat.le_trans (dtS_size _) (by decide))) (by decide))) rfl)) ?_
      refine dr_put (d := 68) (v := .pt 103 9) rfl (og rfl (of_eff (s_field_pt rfl Tryd.underlying102 rfl ti100 rfl rfl rfl) rfl)) ?_
      refine dr_put (d := 69) (v := .d (.ag (eAp ((((ix s.cases ((idx (fun y : Cs => sEq y.id id) s.cases)).toNat))).ap)))) rfl (og rfl (of_eff (s_load_pts rfl Tryd.underlying100 rfl ti100 rfl rfl rfl rfl) rfl)) ?_
      refine dr_put (d := 70) (v := .d (.fl (.string ((apT ((((ix s.cases ((idx (fun y : Cs => sEq y.id id) s.cases)).toNat))).ap)))))) rfl (og rfl (op_callK kkst hG rfl Tryd.func50 nm50 rfl (.cons rfl (.d _) .nil) (ap50 ((((ix s.cases ((idx (fun y : Cs => sEq y.id id) s.cases)).toNat))).ap)) rfl)) ?_
      refine dr_put (d := 71) (v := .d (.sl 1 (List.map rS ([⟨#[97, 112, 112, 101, 97, 108]⟩, (apT ((((ix s.cases ((idx (fun y : Cs => sEq y.id id) s.cases)).toNat))).ap))])))) rfl (og rfl (of_eff (op_slices rfl Tryd.underlying98 ti9 rfl rfl rfl (by kernel_rfl) (xs := [.fl (.string (⟨#[97, 112, 112, 101, 97, 108]⟩)), .fl (.string ((apT ((((ix s.cases ((idx (fun y : Cs => sEq y.id id) s.cases)).toNat))).ap))))]) rfl rfl (.cons rfl rfl (.d _) rfl rfl rfl (.cons rfl rfl (.d _) rfl rfl rfl .nil)) rfl) rfl)) ?_
      refine dr_put (d := 72) (v := .d (.fl (.string ((ln ([⟨#[97, 112, 112, 101, 97, 108]⟩, (apT ((((ix s.cases ((idx (fun y : Cs => sEq y.id id) s.cases)).toNat))).ap))])))))) rfl (og rfl (op_call rfl Tryd.func23 nm23 rfl (.cons rfl (.d _) .nil) (ln26 ([⟨#[97, 112, 112, 101, 97, 108]⟩, (apT ((((ix s.cases ((idx (fun y : Cs => sEq y.id id) s.cases)).toNat))).ap))]) (Nat.le_trans (c5_jn (by decide) (apT_size _)) (by decide))) rfl)) ?_
      refine dr_put (d := 73) (v := .d (.sl 1 (List.map rS ([(ln ([⟨#[99, 97, 115, 101]⟩, (es ((((ix s.cases ((idx (fun y : Cs => sEq y.id id) s.cases)).toNat))).id)), (es ((((ix s.cases ((idx (fun y : Cs => sEq y.id id) s.cases)).toNat))).plate)), (es ((((ix s.cases ((idx (fun y : Cs => sEq y.id id) s.cases)).toNat))).key))])), (ln ([⟨#[115, 116, 97, 103, 101]⟩, (wd stw ((((ix s.cases ((idx (fun y : Cs => sEq y.id id) s.cases)).toNat))).stage)), (dtS ((((ix s.cases ((idx (fun y : Cs => sEq y.id id) s.cases)).toNat))).since))])), (ln ([⟨#[111, 119, 101, 100]⟩, (sh ((((ix s.cases ((idx (fun y : Cs => sEq y.id id) s.cases)).toNat))).owed))])), (ln ([⟨#[112, 97, 105, 100]⟩, (sh ((((ix s.cases ((idx (fun y : Cs => sEq y.id id) s.cases)).toNat))).paid))])), (ln ([⟨#[100, 117, 101]⟩, (dtS ((du s.cfg.law s.cfg.hol ((((ix s.cases ((idx (fun y : Cs => sEq y.id id) s.cases)).toNat))))).1))])), (ln ([⟨#[97, 112, 112, 101, 97, 108]⟩, (apT ((((ix s.cases ((idx (fun y : Cs => sEq y.id id) s.cases)).toNat))).ap))]))])))) rfl (og rfl (of_eff (op_slices rfl Tryd.underlying98 ti9 rfl rfl rfl (by kernel_rfl) (xs := [.fl (.string ((ln ([⟨#[99, 97, 115, 101]⟩, (es ((((ix s.cases ((idx (fun y : Cs => sEq y.id id) s.cases)).toNat))).id)), (es ((((ix s.cases ((idx (fun y : Cs => sEq y.id id) s.cases)).toNat))).plate)), (es ((((ix s.cases ((idx (fun y : Cs => sEq y.id id) s.cases)).toNat))).key))])))), .fl (.string ((ln ([⟨#[115, 116, 97, 103, 101]⟩, (wd stw ((((ix s.cases ((idx (fun y : Cs => sEq y.id id) s.cases)).toNat))).stage)), (dtS ((((ix s.cases ((idx (fun y : Cs => sEq y.id id) s.cases)).toNat))).since))])))), .fl (.string ((ln ([⟨#[111, 119, 101, 100]⟩, (sh ((((ix s.cases ((idx (fun y : Cs => sEq y.id id) s.cases)).toNat))).owed))])))), .fl (.string ((ln ([⟨#[112, 97, 105, 100]⟩, (sh ((((ix s.cases ((idx (fun y : Cs => sEq y.id id) s.cases)).toNat))).paid))])))), .fl (.string ((ln ([⟨#[100, 117, 101]⟩, (dtS ((du s.cfg.law s.cfg.hol ((((ix s.cases ((idx (fun y : Cs => sEq y.id id) s.cases)).toNat))))).1))])))), .fl (.string ((ln ([⟨#[97, 112, 112, 101, 97, 108]⟩, (apT ((((ix s.cases ((idx (fun y : Cs => sEq y.id id) s.cases)).toNat))).ap))]))))]) rfl rfl (.cons rfl rfl (.d _) rfl rfl rfl (.cons rfl rfl (.d _) rfl rfl rfl (.cons rfl rfl (.d _) rfl rfl rfl (.cons rfl rfl (.d _) rfl rfl rfl (.cons rfl rfl (.d _) rfl rfl rfl (.cons rfl rfl (.d _) rfl rfl rfl .nil)))))) rfl) rfl)) ?_
      refine dr_put (d := 74) (v := .d (.fl (.string ((Go.Proofs.YtglhonnmppclpaaDoor.Ow.jc ([(ln ([⟨#[99, 97, 115, 101]⟩, (es ((((ix s.cases ((idx (fun y : Cs => sEq y.id id) s.cases)).toNat))).id)), (es ((((ix s.cases ((idx (fun y : Cs => sEq y.id id) s.cases)).toNat))).plate)), (es ((((ix s.cases ((idx (fun y : Cs => sEq y.id id) s.cases)).toNat))).key))])), (ln ([⟨#[115, 116, 97, 103, 101]⟩, (wd stw ((((ix s.cases ((idx (fun y : Cs => sEq y.id id) s.cases)).toNat))).stage)), (dtS ((((ix s.cases ((idx (fun y : Cs => sEq y.id id) s.cases)).toNat))).since))])), (ln ([⟨#[111, 119, 101, 100]⟩, (sh ((((ix s.cases ((idx (fun y : Cs => sEq y.id id) s.cases)).toNat))).owed))])), (ln ([⟨#[112, 97, 105, 100]⟩, (sh ((((ix s.cases ((idx (fun y : Cs => sEq y.id id) s.cases)).toNat))).paid))])), (ln ([⟨#[100, 117, 101]⟩, (dtS ((du s.cfg.law s.cfg.hol ((((ix s.cases ((idx (fun y : Cs => sEq y.id id) s.cases)).toNat))))).1))])), (ln ([⟨#[97, 112, 112, 101, 97, 108]⟩, (apT ((((ix s.cases ((idx (fun y : Cs => sEq y.id id) s.cases)).toNat))).ap))]))])))))) rfl (og rfl (op_call rfl Tryd.func48 nm48 rfl (.cons rfl (.d _) (.cons rfl (.d _) .nil)) (jc48 ([(ln ([⟨#[99, 97, 115, 101]⟩, (es ((((ix s.cases ((idx (fun y : Cs => sEq y.id id) s.cases)).toNat))).id)), (es ((((ix s.cases ((idx (fun y : Cs => sEq y.id id) s.cases)).toNat))).plate)), (es ((((ix s.cases ((idx (fun y : Cs => sEq y.id id) s.cases)).toNat))).key))])), (ln ([⟨#[115, 116, 97, 103, 101]⟩, (wd stw ((((ix s.cases ((idx (fun y : Cs => sEq y.id id) s.cases)).toNat))).stage)), (dtS ((((ix s.cases ((idx (fun y : Cs => sEq y.id id) s.cases)).toNat))).since))])), (ln ([⟨#[111, 119, 101, 100]⟩, (sh ((((ix s.cases ((idx (fun y : Cs => sEq y.id id) s.cases)).toNat))).owed))])), (ln ([⟨#[112, 97, 105, 100]⟩, (sh ((((ix s.cases ((idx (fun y : Cs => sEq y.id id) s.cases)).toNat))).paid))])), (ln ([⟨#[100, 117, 101]⟩, (dtS ((du s.cfg.law s.cfg.hol ((((ix s.cases ((idx (fun y : Cs => sEq y.id id) s.cases)).toNat))))).1))])), (ln ([⟨#[97, 112, 112, 101, 97, 108]⟩, (apT ((((ix s.cases ((idx (fun y : Cs => sEq y.id id) s.cases)).toNat))).ap))]))]) (by simp only [List.length_cons, List.length_nil]; omega) (by have h9 := cS_size s hX; rw [← cS_jc, dueT_yes h4] at h9; omega)) rfl)) ?_
      refine dr_put (d := 4) (v := .d (.fl (.string ((Go.Proofs.YtglhonnmppclpaaDoor.Ow.jc ([(ln ([⟨#[99, 97, 115, 101]⟩, (es ((((ix s.cases ((idx (fun y : Cs => sEq y.id id) s.cases)).toNat))).id)), (es ((((ix s.cases ((idx (fun y : Cs => sEq y.id id) s.cases)).toNat))).plate)), (es ((((ix s.cases ((idx (fun y : Cs => sEq y.id id) s.cases)).toNat))).key))])), (ln ([⟨#[115, 116, 97, 103, 101]⟩, (wd stw ((((ix s.cases ((idx (fun y : Cs => sEq y.id id) s.cases)).toNat))).stage)), (dtS ((((ix s.cases ((idx (fun y : Cs => sEq y.id id) s.cases)).toNat))).since))])), (ln ([⟨#[111, 119, 101, 100]⟩, (sh ((((ix s.cases ((idx (fun y : Cs => sEq y.id id) s.cases)).toNat))).owed))])), (ln ([⟨#[112, 97, 105, 100]⟩, (sh ((((ix s.cases ((idx (fun y : Cs => sEq y.id id) s.cases)).toNat))).paid))])), (ln ([⟨#[100, 117, 101]⟩, (dtS ((du s.cfg.law s.cfg.hol ((((ix s.cases ((idx (fun y : Cs => sEq y.id id) s.cases)).toNat))))).1))])), (ln ([⟨#[97, 112, 112, 101, 97, 108]⟩, (apT ((((ix s.cases ((idx (fun y : Cs => sEq y.id id) s.cases)).toNat))).ap))]))])))))) rfl (og rfl (op_assign rfl rfl rfl)) ?_
      refine dr_put (d := 5) (v := .d (.fl (.int .i64 0))) rfl (og rfl (op_assign rfl rfl rfl)) ?_
      refine dr_done rfl (sepB_of [0, 1, 3, 0, 8, 31, 0, 64, 255, 511, 1023, 0, 2048, 8191, 0, 16384, 65535, 131071, 262143, 0, 524288, 2097151, 4194303, 8388607, 0, 16777216, 67108863, 134217727, 268435455, 0, 536870912, 2147483647, 0, 4294967296, 17179869183, 34359738367, 68719476735, 137438953471, 274877906943, 549755813887, 1099511627775] (by kernel_rfl)) (by kernel_rfl) ?_
      refine a_ret ?_
      show ∃ ds, ResL _ _ _ ds ∧ RV.of ds = _
      refine ⟨[.fl (.string ((Go.Proofs.YtglhonnmppclpaaDoor.Ow.jc ([(ln ([⟨#[99, 97, 115, 101]⟩, (es ((((ix s.cases ((idx (fun y : Cs => sEq y.id id) s.cases)).toNat))).id)), (es ((((ix s.cases ((idx (fun y : Cs => sEq y.id id) s.cases)).toNat))).plate)), (es ((((ix s.cases ((idx (fun y : Cs => sEq y.id id) s.cases)).toNat))).key))])), (ln ([⟨#[115, 116, 97, 103, 101]⟩, (wd stw ((((ix s.cases ((idx (fun y : Cs => sEq y.id id) s.cases)).toNat))).stage)), (dtS ((((ix s.cases ((idx (fun y : Cs => sEq y.id id) s.cases)).toNat))).since))])), (ln ([⟨#[111, 119, 101, 100]⟩, (sh ((((ix s.cases ((idx (fun y : Cs => sEq y.id id) s.cases)).toNat))).owed))])), (ln ([⟨#[112, 97, 105, 100]⟩, (sh ((((ix s.cases ((idx (fun y : Cs => sEq y.id id) s.cases)).toNat))).paid))])), (ln ([⟨#[100, 117, 101]⟩, (dtS ((du s.cfg.law s.cfg.hol ((((ix s.cases ((idx (fun y : Cs => sEq y.id id) s.cases)).toNat))))).1))])), (ln ([⟨#[97, 112, 112, 101, 97, 108]⟩, (apT ((((ix s.cases ((idx (fun y : Cs => sEq y.id id) s.cases)).toNat))).ap))]))])))), .fl (.int .i64 0)], (.cons (.tmp rfl (.d _)) (.cons (.tmp rfl (.d _)) .nil)), ?_⟩
      rw [ceS_yes h1]
      show _ = RV.tu [.fl (.string (cS s (ix s.cases (idx (fun y : Cs => sEq y.id id) s.cases).toNat))), .fl (.int .i64 0)]
      rw [← cS_jc s (ix s.cases (idx (fun y : Cs => sEq y.id id) s.cases).toNat), dueT_yes h4]; rfl
    · skip
      refine a_skip ?_
      show A _ _ _ _ _ _ _
      refine a_dseq (by kernel_rfl) ?_
      refine dr_put (d := 36) (v := .pt 103 0) rfl (og rfl (of_eff (s_field_pt rfl Tryd.underlying102 rfl ti9 rfl rfl rfl) rfl)) ?_
      refine dr_put (d := 37) (v := .d (.fl (.string ((((ix s.cases ((idx (fun y : Cs => sEq y.id id) s.cases)).toNat))).id)))) rfl (og rfl (op_load_pt rfl Tryd.underlying9 rfl rfl rfl rfl rfl)) ?_
      refine dr_put (d := 38) (v := .d (.fl (.string ((es ((((ix s.cases ((idx (fun y : Cs => sEq y.id id) s.cases)).toNat))).id)))))) rfl (og rfl (op_call rfl Tryd.func24 nm24 rfl (.cons rfl (.d _) .nil) (es27 ((((ix s.cases ((idx (fun y : Cs => sEq y.id id) s.cases)).toNat))).id) (by omega)) rfl)) ?_
      refine dr_put (d := 39) (v := .pt 103 1) rfl (og rfl (of_eff (s_field_pt rfl Tryd.underlying102 rfl ti9 rfl rfl rfl) rfl)) ?_
      refine dr_put (d := 40) (v := .d (.fl (.string ((((ix s.cases ((idx (fun y : Cs => sEq y.id id) s.cases)).toNat))).plate)))) rfl (og rfl (op_load_pt rfl Tryd.underlying9 rfl rfl rfl rfl rfl)) ?_
      refine dr_put (d := 41) (v := .d (.fl (.string ((es ((((ix s.cases ((idx (fun y : Cs => sEq y.id id) s.cases)).toNat))).plate)))))) rfl (og rfl (op_call rfl Tryd.func24 nm24 rfl (.cons rfl (.d _) .nil) (es27 ((((ix s.cases ((idx (fun y : Cs => sEq y.id id) s.cases)).toNat))).plate) (by omega)) rfl)) ?_
      refine dr_put (d := 42) (v := .pt 103 2) rfl (og rfl (of_eff (s_field_pt rfl Tryd.underlying102 rfl ti9 rfl rfl rfl) rfl)) ?_
      refine dr_put (d := 43) (v := .d (.fl (.string ((((ix s.cases ((idx (fun y : Cs => sEq y.id id) s.cases)).toNat))).key)))) rfl (og rfl (op_load_pt rfl Tryd.underlying9 rfl rfl rfl rfl rfl)) ?_
      refine dr_put (d := 44) (v := .d (.fl (.string ((es ((((ix s.cases ((idx (fun y : Cs => sEq y.id id) s.cases)).toNat))).key)))))) rfl (og rfl (op_call rfl Tryd.func24 nm24 rfl (.cons rfl (.d _) .nil) (es27 ((((ix s.cases ((idx (fun y : Cs => sEq y.id id) s.cases)).toNat))).key) (by omega)) rfl)) ?_
      refine dr_put (d := 45) (v := .d (.sl 1 (List.map rS ([⟨#[99, 97, 115, 101]⟩, (es ((((ix s.cases ((idx (fun y : Cs => sEq y.id id) s.cases)).toNat))).id)), (es ((((ix s.cases ((idx (fun y : Cs => sEq y.id id) s.cases)).toNat))).plate)), (es ((((ix s.cases ((idx (fun y : Cs => sEq y.id id) s.cases)).toNat))).key))])))) rfl (og rfl (of_eff (op_slices rfl Tryd.underlying98 ti9 rfl rfl rfl (by kernel_rfl) (xs := [.fl (.string (⟨#[99, 97, 115, 101]⟩)), .fl (.string ((es ((((ix s.cases ((idx (fun y : Cs => sEq y.id id) s.cases)).toNat))).id)))), .fl (.string ((es ((((ix s.cases ((idx (fun y : Cs => sEq y.id id) s.cases)).toNat))).plate)))), .fl (.string ((es ((((ix s.cases ((idx (fun y : Cs => sEq y.id id) s.cases)).toNat))).key))))]) rfl rfl (.cons rfl rfl (.d _) rfl rfl rfl (.cons rfl rfl (.d _) rfl rfl rfl (.cons rfl rfl (.d _) rfl rfl rfl (.cons rfl rfl (.d _) rfl rfl rfl .nil)))) rfl) rfl)) ?_
      refine dr_put (d := 46) (v := .d (.fl (.string ((ln ([⟨#[99, 97, 115, 101]⟩, (es ((((ix s.cases ((idx (fun y : Cs => sEq y.id id) s.cases)).toNat))).id)), (es ((((ix s.cases ((idx (fun y : Cs => sEq y.id id) s.cases)).toNat))).plate)), (es ((((ix s.cases ((idx (fun y : Cs => sEq y.id id) s.cases)).toNat))).key))])))))) rfl (og rfl (op_call rfl Tryd.func23 nm23 rfl (.cons rfl (.d _) .nil) (ln26 ([⟨#[99, 97, 115, 101]⟩, (es ((((ix s.cases ((idx (fun y : Cs => sEq y.id id) s.cases)).toNat))).id)), (es ((((ix s.cases ((idx (fun y : Cs => sEq y.id id) s.cases)).toNat))).plate)), (es ((((ix s.cases ((idx (fun y : Cs => sEq y.id id) s.cases)).toNat))).key))]) (Nat.le_trans (c1_jn hX) (by decide))) rfl)) ?_
      refine dr_put (d := 47) (v := .pt 103 5) rfl (og rfl (of_eff (s_field_pt rfl Tryd.underlying102 rfl ti3 rfl rfl rfl) rfl)) ?_
      refine dr_put (d := 48) (v := .d (.fl (.int .i64 ((((ix s.cases ((idx (fun y : Cs => sEq y.id id) s.cases)).toNat))).stage)))) rfl (og rfl (op_load_pt rfl Tryd.underlying3 rfl rfl rfl rfl rfl)) ?_
      refine dr_put (d := 49) (v := .d (.fl (.string ((wd stw ((((ix s.cases ((idx (fun y : Cs => sEq y.id id) s.cases)).toNat))).stage)))))) rfl (og rfl (op_callK kkst hG rfl Tryd.func49 nm49 rfl (.cons rfl (.d _) .nil) (st49 ((((ix s.cases ((idx (fun y : Cs => sEq y.id id) s.cases)).toNat))).stage)) rfl)) ?_
      refine dr_put (d := 50) (v := .pt 103 4) rfl (og rfl (of_eff (s_field_pt rfl Tryd.underlying102 rfl ti3 rfl rfl rfl) rfl)) ?_
      refine dr_put (d := 51) (v := .d (.fl (.int .i64 ((((ix s.cases ((idx (fun y : Cs => sEq y.id id) s.cases)).toNat))).since)))) rfl (og rfl (op_load_pt rfl Tryd.underlying3 rfl rfl rfl rfl rfl)) ?_
      refine dr_put (d := 52) (v := .d (.fl (.string ((dtS ((((ix s.cases ((idx (fun y : Cs => sEq y.id id) s.cases)).toNat))).since)))))) rfl (og rfl (op_callK kkst hG rfl Tryd.func33 nm33 rfl (.cons rfl (.d _) .nil) (date36 ((((ix s.cases ((idx (fun y : Cs => sEq y.id id) s.cases)).toNat))).since)) rfl)) ?_
      refine dr_put (d := 53) (v := .d (.sl 1 (List.map rS ([⟨#[115, 116, 97, 103, 101]⟩, (wd stw ((((ix s.cases ((idx (fun y : Cs => sEq y.id id) s.cases)).toNat))).stage)), (dtS ((((ix s.cases ((idx (fun y : Cs => sEq y.id id) s.cases)).toNat))).since))])))) rfl (og rfl (of_eff (op_slices rfl Tryd.underlying98 ti9 rfl rfl rfl (by kernel_rfl) (xs := [.fl (.string (⟨#[115, 116, 97, 103, 101]⟩)), .fl (.string ((wd stw ((((ix s.cases ((idx (fun y : Cs => sEq y.id id) s.cases)).toNat))).stage)))), .fl (.string ((dtS ((((ix s.cases ((idx (fun y : Cs => sEq y.id id) s.cases)).toNat))).since))))]) rfl rfl (.cons rfl rfl (.d _) rfl rfl rfl (.cons rfl rfl (.d _) rfl rfl rfl (.cons rfl rfl (.d _) rfl rfl rfl .nil))) rfl) rfl)) ?_
      refine dr_put (d := 54) (v := .d (.fl (.string ((ln ([⟨#[115, 116, 97, 103, 101]⟩, (wd stw ((((ix s.cases ((idx (fun y : Cs => sEq y.id id) s.cases)).toNat))).stage)), (dtS ((((ix s.cases ((idx (fun y : Cs => sEq y.id id) s.cases)).toNat))).since))])))))) rfl (og rfl (op_call rfl Tryd.func23 nm23 rfl (.cons rfl (.d _) .nil) (ln26 ([⟨#[115, 116, 97, 103, 101]⟩, (wd stw ((((ix s.cases ((idx (fun y : Cs => sEq y.id id) s.cases)).toNat))).stage)), (dtS ((((ix s.cases ((idx (fun y : Cs => sEq y.id id) s.cases)).toNat))).since))]) (Nat.le_trans (c2_jn _) (by decide))) rfl)) ?_
      refine dr_put (d := 55) (v := .pt 103 6) rfl (og rfl (of_eff (s_field_pt rfl Tryd.underlying102 rfl ti3 rfl rfl rfl) rfl)) ?_
      refine dr_put (d := 56) (v := .d (.fl (.int .i64 ((((ix s.cases ((idx (fun y : Cs => sEq y.id id) s.cases)).toNat))).owed)))) rfl (og rfl (op_load_pt rfl Tryd.underlying3 rfl rfl rfl rfl rfl)) ?_
      refine dr_put (d := 57) (v := .d (.fl (.string ((sh ((((ix s.cases ((idx (fun y : Cs => sEq y.id id) s.cases)).toNat))).owed)))))) rfl (og rfl (op_callK kkst hG rfl Tryd.func26 nm26 rfl (.cons rfl (.d _) .nil) (sh29 ((((ix s.cases ((idx (fun y : Cs => sEq y.id id) s.cases)).toNat))).owed) hX.owed) rfl)) ?_
      refine dr_put (d := 58) (v := .d (.sl 1 (List.map rS ([⟨#[111, 119, 101, 100]⟩, (sh ((((ix s.cases ((idx (fun y : Cs => sEq y.id id) s.cases)).toNat))).owed))])))) rfl (og rfl (of_eff (op_slices rfl Tryd.underlying98 ti9 rfl rfl rfl (by kernel_rfl) (xs := [.fl (.string (⟨#[111, 119, 101, 100]⟩)), .fl (.string ((sh ((((ix s.cases ((idx (fun y : Cs => sEq y.id id) s.cases)).toNat))).owed))))]) rfl rfl (.cons rfl rfl (.d _) rfl rfl rfl (.cons rfl rfl (.d _) rfl rfl rfl .nil)) rfl) rfl)) ?_
      refine dr_put (d := 59) (v := .d (.fl (.string ((ln ([⟨#[111, 119, 101, 100]⟩, (sh ((((ix s.cases ((idx (fun y : Cs => sEq y.id id) s.cases)).toNat))).owed))])))))) rfl (og rfl (op_call rfl Tryd.func23 nm23 rfl (.cons rfl (.d _) .nil) (ln26 ([⟨#[111, 119, 101, 100]⟩, (sh ((((ix s.cases ((idx (fun y : Cs => sEq y.id id) s.cases)).toNat))).owed))]) (Nat.le_trans (c3_jn (by decide) hX.owed) (by decide))) rfl)) ?_
      refine dr_put (d := 60) (v := .pt 103 7) rfl (og rfl (of_eff (s_field_pt rfl Tryd.underlying102 rfl ti3 rfl rfl rfl) rfl)) ?_
      refine dr_put (d := 61) (v := .d (.fl (.int .i64 ((((ix s.cases ((idx (fun y : Cs => sEq y.id id) s.cases)).toNat))).paid)))) rfl (og rfl (op_load_pt rfl Tryd.underlying3 rfl rfl rfl rfl rfl)) ?_
      refine dr_put (d := 62) (v := .d (.fl (.string ((sh ((((ix s.cases ((idx (fun y : Cs => sEq y.id id) s.cases)).toNat))).paid)))))) rfl (og rfl (op_callK kkst hG rfl Tryd.func26 nm26 rfl (.cons rfl (.d _) .nil) (sh29 ((((ix s.cases ((idx (fun y : Cs => sEq y.id id) s.cases)).toNat))).paid) hX.paid) rfl)) ?_
      refine dr_put (d := 63) (v := .d (.sl 1 (List.map rS ([⟨#[112, 97, 105, 100]⟩, (sh ((((ix s.cases ((idx (fun y : Cs => sEq y.id id) s.cases)).toNat))).paid))])))) rfl (og rfl (of_eff (op_slices rfl Tryd.underlying98 ti9 rfl rfl rfl (by kernel_rfl) (xs := [.fl (.string (⟨#[112, 97, 105, 100]⟩)), .fl (.string ((sh ((((ix s.cases ((idx (fun y : Cs => sEq y.id id) s.cases)).toNat))).paid))))]) rfl rfl (.cons rfl rfl (.d _) rfl rfl rfl (.cons rfl rfl (.d _) rfl rfl rfl .nil)) rfl) rfl)) ?_
      refine dr_put (d := 64) (v := .d (.fl (.string ((ln ([⟨#[112, 97, 105, 100]⟩, (sh ((((ix s.cases ((idx (fun y : Cs => sEq y.id id) s.cases)).toNat))).paid))])))))) rfl (og rfl (op_call rfl Tryd.func23 nm23 rfl (.cons rfl (.d _) .nil) (ln26 ([⟨#[112, 97, 105, 100]⟩, (sh ((((ix s.cases ((idx (fun y : Cs => sEq y.id id) s.cases)).toNat))).paid))]) (Nat.le_trans (c3_jn (by decide) hX.paid) (by decide))) rfl)) ?_
      refine dr_put (d := 65) (v := .d (.fl (.string (⟨#[45]⟩)))) rfl (og rfl (op_move rfl rfl rfl)) ?_
      refine dr_put (d := 66) (v := .d (.sl 1 (List.map rS ([⟨#[100, 117, 101]⟩, ⟨#[45]⟩])))) rfl (og rfl (of_eff (op_slices rfl Tryd.underlying98 ti9 rfl rfl rfl (by kernel_rfl) (xs := [.fl (.string (⟨#[100, 117, 101]⟩)), .fl (.string (⟨#[45]⟩))]) rfl rfl (.cons rfl rfl (.d _) rfl rfl rfl (.cons rfl rfl (.d _) rfl rfl rfl .nil)) rfl) rfl)) ?_
      refine dr_put (d := 67) (v := .d (.fl (.string ((ln ([⟨#[100, 117, 101]⟩, ⟨#[45]⟩])))))) rfl (og rfl (op_call rfl Tryd.func23 nm23 rfl (.cons rfl (.d _) .nil) (ln26 ([⟨#[100, 117, 101]⟩, ⟨#[45]⟩]) (Nat.le_trans (c5_jn (by decide) (by decide)) (by decide))) rfl)) ?_
      refine dr_put (d := 68) (v := .pt 103 9) rfl (og rfl (of_eff (s_field_pt rfl Tryd.underlying102 rfl ti100 rfl rfl rfl) rfl)) ?_
      refine dr_put (d := 69) (v := .d (.ag (eAp ((((ix s.cases ((idx (fun y : Cs => sEq y.id id) s.cases)).toNat))).ap)))) rfl (og rfl (of_eff (s_load_pts rfl Tryd.underlying100 rfl ti100 rfl rfl rfl rfl) rfl)) ?_
      refine dr_put (d := 70) (v := .d (.fl (.string ((apT ((((ix s.cases ((idx (fun y : Cs => sEq y.id id) s.cases)).toNat))).ap)))))) rfl (og rfl (op_callK kkst hG rfl Tryd.func50 nm50 rfl (.cons rfl (.d _) .nil) (ap50 ((((ix s.cases ((idx (fun y : Cs => sEq y.id id) s.cases)).toNat))).ap)) rfl)) ?_
      refine dr_put (d := 71) (v := .d (.sl 1 (List.map rS ([⟨#[97, 112, 112, 101, 97, 108]⟩, (apT ((((ix s.cases ((idx (fun y : Cs => sEq y.id id) s.cases)).toNat))).ap))])))) rfl (og rfl (of_eff (op_slices rfl Tryd.underlying98 ti9 rfl rfl rfl (by kernel_rfl) (xs := [.fl (.string (⟨#[97, 112, 112, 101, 97, 108]⟩)), .fl (.string ((apT ((((ix s.cases ((idx (fun y : Cs => sEq y.id id) s.cases)).toNat))).ap))))]) rfl rfl (.cons rfl rfl (.d _) rfl rfl rfl (.cons rfl rfl (.d _) rfl rfl rfl .nil)) rfl) rfl)) ?_
      refine dr_put (d := 72) (v := .d (.fl (.string ((ln ([⟨#[97, 112, 112, 101, 97, 108]⟩, (apT ((((ix s.cases ((idx (fun y : Cs => sEq y.id id) s.cases)).toNat))).ap))])))))) rfl (og rfl (op_call rfl Tryd.func23 nm23 rfl (.cons rfl (.d _) .nil) (ln26 ([⟨#[97, 112, 112, 101, 97, 108]⟩, (apT ((((ix s.cases ((idx (fun y : Cs => sEq y.id id) s.cases)).toNat))).ap))]) (Nat.le_trans (c5_jn (by decide) (apT_size _)) (by decide))) rfl)) ?_
      refine dr_put (d := 73) (v := .d (.sl 1 (List.map rS ([(ln ([⟨#[99, 97, 115, 101]⟩, (es ((((ix s.cases ((idx (fun y : Cs => sEq y.id id) s.cases)).toNat))).id)), (es ((((ix s.cases ((idx (fun y : Cs => sEq y.id id) s.cases)).toNat))).plate)), (es ((((ix s.cases ((idx (fun y : Cs => sEq y.id id) s.cases)).toNat))).key))])), (ln ([⟨#[115, 116, 97, 103, 101]⟩, (wd stw ((((ix s.cases ((idx (fun y : Cs => sEq y.id id) s.cases)).toNat))).stage)), (dtS ((((ix s.cases ((idx (fun y : Cs => sEq y.id id) s.cases)).toNat))).since))])), (ln ([⟨#[111, 119, 101, 100]⟩, (sh ((((ix s.cases ((idx (fun y : Cs => sEq y.id id) s.cases)).toNat))).owed))])), (ln ([⟨#[112, 97, 105, 100]⟩, (sh ((((ix s.cases ((idx (fun y : Cs => sEq y.id id) s.cases)).toNat))).paid))])), (ln ([⟨#[100, 117, 101]⟩, ⟨#[45]⟩])), (ln ([⟨#[97, 112, 112, 101, 97, 108]⟩, (apT ((((ix s.cases ((idx (fun y : Cs => sEq y.id id) s.cases)).toNat))).ap))]))])))) rfl (og rfl (of_eff (op_slices rfl Tryd.underlying98 ti9 rfl rfl rfl (by kernel_rfl) (xs := [.fl (.string ((ln ([⟨#[99, 97, 115, 101]⟩, (es ((((ix s.cases ((idx (fun y : Cs => sEq y.id id) s.cases)).toNat))).id)), (es ((((ix s.cases ((idx (fun y : Cs => sEq y.id id) s.cases)).toNat))).plate)), (es ((((ix s.cases ((idx (fun y : Cs => sEq y.id id) s.cases)).toNat))).key))])))), .fl (.string ((ln ([⟨#[115, 116, 97, 103, 101]⟩, (wd stw ((((ix s.cases ((idx (fun y : Cs => sEq y.id id) s.cases)).toNat))).stage)), (dtS ((((ix s.cases ((idx (fun y : Cs => sEq y.id id) s.cases)).toNat))).since))])))), .fl (.string ((ln ([⟨#[111, 119, 101, 100]⟩, (sh ((((ix s.cases ((idx (fun y : Cs => sEq y.id id) s.cases)).toNat))).owed))])))), .fl (.string ((ln ([⟨#[112, 97, 105, 100]⟩, (sh ((((ix s.cases ((idx (fun y : Cs => sEq y.id id) s.cases)).toNat))).paid))])))), .fl (.string ((ln ([⟨#[100, 117, 101]⟩, ⟨#[45]⟩])))), .fl (.string ((ln ([⟨#[97, 112, 112, 101, 97, 108]⟩, (apT ((((ix s.cases ((idx (fun y : Cs => sEq y.id id) s.cases)).toNat))).ap))]))))]) rfl rfl (.cons rfl rfl (.d _) rfl rfl rfl (.cons rfl rfl (.d _) rfl rfl rfl (.cons rfl rfl (.d _) rfl rfl rfl (.cons rfl rfl (.d _) rfl rfl rfl (.cons rfl rfl (.d _) rfl rfl rfl (.cons rfl rfl (.d _) rfl rfl rfl .nil)))))) rfl) rfl)) ?_
      refine dr_put (d := 74) (v := .d (.fl (.string ((Go.Proofs.YtglhonnmppclpaaDoor.Ow.jc ([(ln ([⟨#[99, 97, 115, 101]⟩, (es ((((ix s.cases ((idx (fun y : Cs => sEq y.id id) s.cases)).toNat))).id)), (es ((((ix s.cases ((idx (fun y : Cs => sEq y.id id) s.cases)).toNat))).plate)), (es ((((ix s.cases ((idx (fun y : Cs => sEq y.id id) s.cases)).toNat))).key))])), (ln ([⟨#[115, 116, 97, 103, 101]⟩, (wd stw ((((ix s.cases ((idx (fun y : Cs => sEq y.id id) s.cases)).toNat))).stage)), (dtS ((((ix s.cases ((idx (fun y : Cs => sEq y.id id) s.cases)).toNat))).since))])), (ln ([⟨#[111, 119, 101, 100]⟩, (sh ((((ix s.cases ((idx (fun y : Cs => sEq y.id id) s.cases)).toNat))).owed))])), (ln ([⟨#[112, 97, 105, 100]⟩, (sh ((((ix s.cases ((idx (fun y : Cs => sEq y.id id) s.cases)).toNat))).paid))])), (ln ([⟨#[100, 117, 101]⟩, ⟨#[45]⟩])), (ln ([⟨#[97, 112, 112, 101, 97, 108]⟩, (apT ((((ix s.cases ((idx (fun y : Cs => sEq y.id id) s.cases)).toNat))).ap))]))])))))) rfl (og rfl (op_call rfl Tryd.func48 nm48 rfl (.cons rfl (.d _) (.cons rfl (.d _) .nil)) (jc48 ([(ln ([⟨#[99, 97, 115, 101]⟩, (es ((((ix s.cases ((idx (fun y : Cs => sEq y.id id) s.cases)).toNat))).id)), (es ((((ix s.cases ((idx (fun y : Cs => sEq y.id id) s.cases)).toNat))).plate)), (es ((((ix s.cases ((idx (fun y : Cs => sEq y.id id) s.cases)).toNat))).key))])), (ln ([⟨#[115, 116, 97, 103, 101]⟩, (wd stw ((((ix s.cases ((idx (fun y : Cs => sEq y.id id) s.cases)).toNat))).stage)), (dtS ((((ix s.cases ((idx (fun y : Cs => sEq y.id id) s.cases)).toNat))).since))])), (ln ([⟨#[111, 119, 101, 100]⟩, (sh ((((ix s.cases ((idx (fun y : Cs => sEq y.id id) s.cases)).toNat))).owed))])), (ln ([⟨#[112, 97, 105, 100]⟩, (sh ((((ix s.cases ((idx (fun y : Cs => sEq y.id id) s.cases)).toNat))).paid))])), (ln ([⟨#[100, 117, 101]⟩, ⟨#[45]⟩])), (ln ([⟨#[97, 112, 112, 101, 97, 108]⟩, (apT ((((ix s.cases ((idx (fun y : Cs => sEq y.id id) s.cases)).toNat))).ap))]))]) (by simp only [List.length_cons, List.length_nil]; omega) (by have h9 := cS_size s hX; rw [← cS_jc, dueT_no h4] at h9; omega)) rfl)) ?_
      refine dr_put (d := 4) (v := .d (.fl (.string ((Go.Proofs.YtglhonnmppclpaaDoor.Ow.jc ([(ln ([⟨#[99, 97, 115, 101]⟩, (es ((((ix s.cases ((idx (fun y : Cs => sEq y.id id) s.cases)).toNat))).id)), (es ((((ix s.cases ((idx (fun y : Cs => sEq y.id id) s.cases)).toNat))).plate)), (es ((((ix s.cases ((idx (fun y : Cs => sEq y.id id) s.cases)).toNat))).key))])), (ln ([⟨#[115, 116, 97, 103, 101]⟩, (wd stw ((((ix s.cases ((idx (fun y : Cs => sEq y.id id) s.cases)).toNat))).stage)), (dtS ((((ix s.cases ((idx (fun y : Cs => sEq y.id id) s.cases)).toNat))).since))])), (ln ([⟨#[111, 119, 101, 100]⟩, (sh ((((ix s.cases ((idx (fun y : Cs => sEq y.id id) s.cases)).toNat))).owed))])), (ln ([⟨#[112, 97, 105, 100]⟩, (sh ((((ix s.cases ((idx (fun y : Cs => sEq y.id id) s.cases)).toNat))).paid))])), (ln ([⟨#[100, 117, 101]⟩, ⟨#[45]⟩])), (ln ([⟨#[97, 112, 112, 101, 97, 108]⟩, (apT ((((ix s.cases ((idx (fun y : Cs => sEq y.id id) s.cases)).toNat))).ap))]))])))))) rfl (og rfl (op_assign rfl rfl rfl)) ?_
      refine dr_put (d := 5) (v := .d (.fl (.int .i64 0))) rfl (og rfl (op_assign rfl rfl rfl)) ?_
      refine dr_done rfl (sepB_of [0, 1, 3, 0, 8, 31, 0, 64, 255, 511, 1023, 0, 2048, 8191, 0, 16384, 65535, 131071, 262143, 0, 524288, 2097151, 4194303, 8388607, 0, 16777216, 67108863, 134217727, 268435455, 0, 536870912, 2147483647, 0, 4294967296, 17179869183, 34359738367, 68719476735, 137438953471, 274877906943, 549755813887, 1099511627775] (by kernel_rfl)) (by kernel_rfl) ?_
      refine a_ret ?_
      show ∃ ds, ResL _ _ _ ds ∧ RV.of ds = _
      refine ⟨[.fl (.string ((Go.Proofs.YtglhonnmppclpaaDoor.Ow.jc ([(ln ([⟨#[99, 97, 115, 101]⟩, (es ((((ix s.cases ((idx (fun y : Cs => sEq y.id id) s.cases)).toNat))).id)), (es ((((ix s.cases ((idx (fun y : Cs => sEq y.id id) s.cases)).toNat))).plate)), (es ((((ix s.cases ((idx (fun y : Cs => sEq y.id id) s.cases)).toNat))).key))])), (ln ([⟨#[115, 116, 97, 103, 101]⟩, (wd stw ((((ix s.cases ((idx (fun y : Cs => sEq y.id id) s.cases)).toNat))).stage)), (dtS ((((ix s.cases ((idx (fun y : Cs => sEq y.id id) s.cases)).toNat))).since))])), (ln ([⟨#[111, 119, 101, 100]⟩, (sh ((((ix s.cases ((idx (fun y : Cs => sEq y.id id) s.cases)).toNat))).owed))])), (ln ([⟨#[112, 97, 105, 100]⟩, (sh ((((ix s.cases ((idx (fun y : Cs => sEq y.id id) s.cases)).toNat))).paid))])), (ln ([⟨#[100, 117, 101]⟩, ⟨#[45]⟩])), (ln ([⟨#[97, 112, 112, 101, 97, 108]⟩, (apT ((((ix s.cases ((idx (fun y : Cs => sEq y.id id) s.cases)).toNat))).ap))]))])))), .fl (.int .i64 0)], (.cons (.tmp rfl (.d _)) (.cons (.tmp rfl (.d _)) .nil)), ?_⟩
      rw [ceS_yes h1]
      show _ = RV.tu [.fl (.string (cS s (ix s.cases (idx (fun y : Cs => sEq y.id id) s.cases).toNat))), .fl (.int .i64 0)]
      rw [← cS_jc s (ix s.cases (idx (fun y : Cs => sEq y.id id) s.cases).toNat), dueT_no h4]; rfl
theorem jn_ln (a b c : ByteArray) : ln [a, jn [b, c]] = ln [a, b, c] := by unfold ln; rw [jn_jn]

set_option maxHeartbeats 4000000 in
set_option maxRecDepth 100000 in
theorem case18 (s : Sa) (id : ByteArray) (hQ : OkQ s) : Ctr Tryd.prog 18 [.ag (eSa s), .fl (.string id)] (.tu [.fl (.string (ceS s id).1), .fl (.int .i64 (ceS s id).2)]) := by
  have hl0 := hQ.len
  refine ctr (n := 105) (rs := #[.tmp 4, .tmp 5]) (L := [(0, .d (.ag (eSa s))), (1, .d (.fl (.string id)))]) Tryd.func18 rfl rfl rfl rfl rfl (fun w0 U0 => ?_)
  refine a_rseq ?_
  refine rg_nam (d := 2) (v := .pt 101 0) (m := 101) (nw := [(101, .bx 70 (eSa s))]) rfl (og rfl (of_eff (op_box 101 rfl rfl rfl rfl) rfl)) rfl ?_
  refine rg_put (d := 4) (v := .d (.fl (.string (⟨#[]⟩)))) rfl (og rfl (op_assign rfl rfl rfl)) ?_
  refine rg_put (d := 5) (v := .d (.fl (.int .i64 0))) rfl (og rfl (op_assign rfl rfl rfl)) ?_
  refine rg_done rfl ?_
  refine a_seq ?_
  refine a_rseq ?_
  refine rg_put (d := 6) (v := .d (.fl (.int .i64 0))) rfl (og rfl (op_assign rfl rfl rfl)) ?_
  refine rg_done rfl ?_
  refine a_block ?_
  refine a_loop (ι := Nat) (fun k => SS [(0, .d (.ag (eSa s))), (1, .d (.fl (.string id))), (2, .pt 101 0), (6, .d (.fl (.int .i64 (k : Int))))] [(101, .bx 70 (eSa s))]) (fun k => k ≤ s.cases.length ∧ ∀ q, q < k → sEq (ix s.cases q).id id = false) (fun k => s.cases.length - k) 0 (⟨by omega, fun q h => by omega⟩) (imp_forget rfl ⟨rfl, rfl, rfl, (by first | rfl | exact ci (by omega) | exact ci (by simp) | exact cd (by simp) | simp), trivial⟩ ⟨rfl, trivial⟩) (fun k hok => ?_)
  obtain ⟨hkk, hq⟩ := hok
  refine a_seq ?_
  refine a_rseq ?_
  refine rg_put (d := 13) (v := .d (.fl (.int .i64 (k : Int)))) rfl (og rfl (op_move rfl rfl rfl)) ?_
  refine rg_put (d := 14) (v := .pt 101 37) rfl (og rfl (of_eff (s_field_pt rfl Tryd.underlying70 rfl ti68 rfl rfl rfl) rfl)) ?_
  refine rg_put (d := 15) (v := .d (.sl 12 (List.map eCs s.cases))) rfl (og rfl (op_load_pt rfl Tryd.underlying68 rfl rfl rfl rfl rfl)) ?_
  refine rg_put (d := 16) (v := .d (.fl (.int .i64 (s.cases.length : Int)))) rfl (og rfl (s_len rfl Tryd.underlying68 rfl rfl)) ?_
  refine rg_put (d := 17) (v := .d (.fl (.bool ((decide ((k : Int) < (s.cases.length : Int))))))) rfl (og rfl (op_bin rfl rfl rfl (b_lss _ _ _ _) rfl)) ?_
  refine rg_done rfl ?_
  refine a_cond rfl (fun h1 => ?_) (fun h1 => ?_)
  · skip
    have h2 := t_dec h1
    refine a_skip ?_
    show A _ _ _ _ _ _ _
    refine a_seq ?_
    refine a_block ?_
    refine a_rseq ?_
    refine rg_put (d := 20) (v := .pt 101 37) rfl (og rfl (of_eff (s_field_pt rfl Tryd.underlying70 rfl ti68 rfl rfl rfl) rfl)) ?_
    refine rg_put (d := 21) (v := .d (.sl 12 (List.map eCs s.cases))) rfl (og rfl (op_load_pt rfl Tryd.underlying68 rfl rfl rfl rfl rfl)) ?_
    refine rg_put (d := 22) (v := .d (.fl (.int .i64 (k : Int)))) rfl (og rfl (op_move rfl rfl rfl)) ?_
    refine rg_put (d := 23) (v := .el ((eCs (ix s.cases k)))) rfl (og rfl (s_index rfl Tryd.underlying68 ti102 rfl rfl (by omega) (row_at (by omega)) rfl)) ?_
    refine rg_put (d := 24) (v := .d (.ag (eCs (ix s.cases k)))) rfl (og rfl (of_eff (s_load_els rfl Tryd.underlying102 rfl ti102 rfl rfl rfl) rfl)) ?_
    refine rg_nam (d := 7) (v := .pt 102 0) (m := 102) (nw := [(102, .bx 102 ([.fl (.string (⟨#[]⟩)), .fl (.string (⟨#[]⟩)), .fl (.string (⟨#[]⟩)), .fl (.int .i64 0), .fl (.int .i64 0), .fl (.int .i64 0), .fl (.int .i64 0), .fl (.int .i64 0), .fl (.int .i64 0), .fl (.int .i64 0), .fl (.int .i64 0), .fl (.int .i64 0)]))]) rfl (og rfl (of_eff (s_alloc 102 rfl ti102 (by kernel_rfl) rfl) rfl)) rfl ?_
    refine rg_sto (nw := [(102, .bx 102 ((eCs (ix s.cases k))))]) rfl (og rfl (of_eff (s_store rfl rfl ti102 rfl rfl rfl rfl rfl rfl) rfl)) ?_
    refine rg_done rfl ?_
    refine a_seq ?_
    refine a_rseq ?_
    have hX := hQ.cs k (by omega)
    have x1 := hX.id
    have x2 := hX.plate
    have x3 := hX.key
    refine rg_put (d := 25) (v := .pt 102 0) rfl (og rfl (of_eff (s_field_pt rfl Tryd.underlying102 rfl ti9 rfl rfl rfl) rfl)) ?_
    refine rg_put (d := 26) (v := .d (.fl (.string ((ix s.cases k).id)))) rfl (og rfl (op_load_pt rfl Tryd.underlying9 rfl rfl rfl rfl rfl)) ?_
    refine rg_put (d := 27) (v := .d (.fl (.string id))) rfl (og rfl (op_move rfl rfl rfl)) ?_
    refine rg_put (d := 28) (v := .d (.fl (.bool ((!(sEq ((ix s.cases k).id) id)))))) rfl (og rfl (op_bin rfl rfl rfl (b_sne _ _ _) rfl)) ?_
    refine rg_done rfl ?_
    refine a_cond rfl (fun h3 => ?_) (fun h3 => ?_)
    · skip
      have h4 := t_not h3
      refine a_exit ?_
      show A _ _ _ _ _ _ _
      refine a_region ?_
      refine rg_put (d := 18) (v := .d (.fl (.int .i64 (k : Int)))) rfl (og rfl (op_move rfl rfl rfl)) ?_
      refine rg_put (d := 19) (v := .d (.fl (.int .i64 (((k : Int) + 1))))) rfl (og rfl (op_bin rfl rfl rfl (fun x y w => b_add64 _ _ _ x y w (by omega)) rfl)) ?_
      refine rg_put (d := 6) (v := .d (.fl (.int .i64 (((k : Int) + 1))))) rfl (og rfl (op_assign rfl rfl rfl)) ?_
      refine rg_done rfl ?_
      have hx : sEq (ix s.cases k).id id = false := h4
      show ∃ i, _ ∧ _ ∧ Imp _ _ _ _ _
      refine ⟨k + 1, ⟨by omega, fun q h => (Nat.lt_succ_iff_lt_or_eq.1 h).elim (hq q) (fun e => by rw [e]; exact hx)⟩, by omega, imp_forget rfl ⟨rfl, rfl, rfl, (by first | rfl | exact ci (by omega) | exact ci (by simp) | exact cd (by simp) | simp), trivial⟩ ⟨rfl, trivial⟩⟩
    · skip
      have h5 := f_not h3
      refine a_skip ?_
      show A _ _ _ _ _ _ _
      refine a_rseq ?_
      refine rg_put (d := 29) (v := .d (.sl 1 (List.map rS ([⟨#[110, 101, 119]⟩, ⟨#[110, 111, 116, 105, 99, 101]⟩, ⟨#[114, 101, 109, 105, 110, 100]⟩, ⟨#[112, 101, 110, 97, 108, 116, 121]⟩, ⟨#[99, 111, 117, 114, 116]⟩, ⟨#[112, 97, 105, 100]⟩, ⟨#[119, 97, 105, 118, 101, 100]⟩, ⟨#[98, 97, 114, 114, 101, 100]⟩])))) rfl (og rfl (of_eff (op_slices rfl Tryd.underlying98 ti9 rfl rfl rfl (by kernel_rfl) (xs := [.fl (.string (⟨#[110, 101, 119]⟩)), .fl (.string (⟨#[110, 111, 116, 105, 99, 101]⟩)), .fl (.string (⟨#[114, 101, 109, 105, 110, 100]⟩)), .fl (.string (⟨#[112, 101, 110, 97, 108, 116, 121]⟩)), .fl (.string (⟨#[99, 111, 117, 114, 116]⟩)), .fl (.string (⟨#[112, 97, 105, 100]⟩)), .fl (.string (⟨#[119, 97, 105, 118, 101, 100]⟩)), .fl (.string (⟨#[98, 97, 114, 114, 101, 100]⟩))]) rfl rfl (.cons rfl rfl (.d _) rfl rfl rfl (.cons rfl rfl (.d _) rfl rfl rfl (.cons rfl rfl (.d _) rfl rfl rfl (.cons rfl rfl (.d _) rfl rfl rfl (.cons rfl rfl (.d _) rfl rfl rfl (.cons rfl rfl (.d _) rfl rfl rfl (.cons rfl rfl (.d _) rfl rfl rfl (.cons rfl rfl (.d _) rfl rfl rfl .nil)))))))) rfl) rfl)) ?_
      refine rg_put (d := 30) (v := .pt 102 5) rfl (og rfl (of_eff (s_field_pt rfl Tryd.underlying102 rfl ti3 rfl rfl rfl) rfl)) ?_
      refine rg_put (d := 31) (v := .d (.fl (.int .i64 ((ix s.cases k).stage)))) rfl (og rfl (op_load_pt rfl Tryd.underlying3 rfl rfl rfl rfl rfl)) ?_
      refine rg_put (d := 32) (v := .d (.fl (.string ((wd stw ((ix s.cases k).stage)))))) rfl (og rfl (op_call rfl Tryd.func51 nm51 rfl (.cons rfl (.d _) (.cons rfl (.d _) .nil)) (wd51 stw ((ix s.cases k).stage) (by decide)) rfl)) ?_
      refine rg_put (d := 8) (v := .d (.fl (.string ((wd stw ((ix s.cases k).stage)))))) rfl (og rfl (op_assign rfl rfl rfl)) ?_
      refine rg_done rfl ?_
      refine a_dseq (by kernel_rfl) ?_
      refine dr_put (d := 33) (v := .pt 102 0) rfl (og rfl (of_eff (s_field_pt rfl Tryd.underlying102 rfl ti9 rfl rfl rfl) rfl)) ?_
      refine dr_put (d := 34) (v := .d (.fl (.string ((ix s.cases k).id)))) rfl (og rfl (op_load_pt rfl Tryd.underlying9 rfl rfl rfl rfl rfl)) ?_
      refine dr_put (d := 35) (v := .d (.fl (.string ((es ((ix s.cases k).id)))))) rfl (og rfl (op_call rfl Tryd.func29 nm29 rfl (.cons rfl (.d _) .nil) (es32 ((ix s.cases k).id) (by omega)) rfl)) ?_
      refine dr_put (d := 36) (v := .pt 102 1) rfl (og rfl (of_eff (s_field_pt rfl Tryd.underlying102 rfl ti9 rfl rfl rfl) rfl)) ?_
      refine dr_put (d := 37) (v := .d (.fl (.string ((ix s.cases k).plate)))) rfl (og rfl (op_load_pt rfl Tryd.underlying9 rfl rfl rfl rfl rfl)) ?_
      refine dr_put (d := 38) (v := .d (.fl (.string ((es ((ix s.cases k).plate)))))) rfl (og rfl (op_call rfl Tryd.func29 nm29 rfl (.cons rfl (.d _) .nil) (es32 ((ix s.cases k).plate) (by omega)) rfl)) ?_
      refine dr_put (d := 39) (v := .pt 102 2) rfl (og rfl (of_eff (s_field_pt rfl Tryd.underlying102 rfl ti9 rfl rfl rfl) rfl)) ?_
      refine dr_put (d := 40) (v := .d (.fl (.string ((ix s.cases k).key)))) rfl (og rfl (op_load_pt rfl Tryd.underlying9 rfl rfl rfl rfl rfl)) ?_
      refine dr_put (d := 41) (v := .d (.fl (.string ((es ((ix s.cases k).key)))))) rfl (og rfl (op_call rfl Tryd.func29 nm29 rfl (.cons rfl (.d _) .nil) (es32 ((ix s.cases k).key) (by omega)) rfl)) ?_
      refine dr_put (d := 42) (v := .d (.sl 1 (List.map rS ([⟨#[99, 97, 115, 101]⟩, (es ((ix s.cases k).id)), (es ((ix s.cases k).plate)), (es ((ix s.cases k).key))])))) rfl (og rfl (of_eff (op_slices rfl Tryd.underlying98 ti9 rfl rfl rfl (by kernel_rfl) (xs := [.fl (.string (⟨#[99, 97, 115, 101]⟩)), .fl (.string ((es ((ix s.cases k).id)))), .fl (.string ((es ((ix s.cases k).plate)))), .fl (.string ((es ((ix s.cases k).key))))]) rfl rfl (.cons rfl rfl (.d _) rfl rfl rfl (.cons rfl rfl (.d _) rfl rfl rfl (.cons rfl rfl (.d _) rfl rfl rfl (.cons rfl rfl (.d _) rfl rfl rfl .nil)))) rfl) rfl)) ?_
      refine dr_put (d := 43) (v := .d (.fl (.string ((ln ([⟨#[99, 97, 115, 101]⟩, (es ((ix s.cases k).id)), (es ((ix s.cases k).plate)), (es ((ix s.cases k).key))])))))) rfl (og rfl (op_call rfl Tryd.func28 nm28 rfl (.cons rfl (.d _) .nil) (ln31 ([⟨#[99, 97, 115, 101]⟩, (es ((ix s.cases k).id)), (es ((ix s.cases k).plate)), (es ((ix s.cases k).key))]) (Nat.le_trans (c1_jn hX) (by decide))) rfl)) ?_
      refine dr_put (d := 44) (v := .d (.fl (.string ((wd stw ((ix s.cases k).stage)))))) rfl (og rfl (op_move rfl rfl rfl)) ?_
      refine dr_put (d := 45) (v := .pt 102 4) rfl (og rfl (of_eff (s_field_pt rfl Tryd.underlying102 rfl ti3 rfl rfl rfl) rfl)) ?_
      refine dr_put (d := 46) (v := .d (.fl (.int .i64 ((ix s.cases k).since)))) rfl (og rfl (op_load_pt rfl Tryd.underlying3 rfl rfl rfl rfl rfl)) ?_
      refine dr_put (d := 47) (v := .d (.fl (.string ((dtS ((ix s.cases k).since)))))) rfl (og rfl (op_call rfl Tryd.func37 nm37 rfl (.cons rfl (.d _) .nil) (date40 ((ix s.cases k).since)) rfl)) ?_
      refine dr_put (d := 48) (v := .d (.sl 1 (List.map rS ([⟨#[115, 116, 97, 103, 101]⟩, (wd stw ((ix s.cases k).stage)), (dtS ((ix s.cases k).since))])))) rfl (og rfl (of_eff (op_slices rfl Tryd.underlying98 ti9 rfl rfl rfl (by kernel_rfl) (xs := [.fl (.string (⟨#[115, 116, 97, 103, 101]⟩)), .fl (.string ((wd stw ((ix s.cases k).stage)))), .fl (.string ((dtS ((ix s.cases k).since))))]) rfl rfl (.cons rfl rfl (.d _) rfl rfl rfl (.cons rfl rfl (.d _) rfl rfl rfl (.cons rfl rfl (.d _) rfl rfl rfl .nil))) rfl) rfl)) ?_
      refine dr_put (d := 49) (v := .d (.fl (.string ((ln ([⟨#[115, 116, 97, 103, 101]⟩, (wd stw ((ix s.cases k).stage)), (dtS ((ix s.cases k).since))])))))) rfl (og rfl (op_call rfl Tryd.func28 nm28 rfl (.cons rfl (.d _) .nil) (ln31 ([⟨#[115, 116, 97, 103, 101]⟩, (wd stw ((ix s.cases k).stage)), (dtS ((ix s.cases k).since))]) (Nat.le_trans (c2_jn _) (by decide))) rfl)) ?_
      refine dr_put (d := 50) (v := .d (.fl (.string ((((ln ([⟨#[99, 97, 115, 101]⟩, (es ((ix s.cases k).id)), (es ((ix s.cases k).plate)), (es ((ix s.cases k).key))]))) ++ ((ln ([⟨#[115, 116, 97, 103, 101]⟩, (wd stw ((ix s.cases k).stage)), (dtS ((ix s.cases k).since))])))))))) rfl (og rfl (op_bin rfl rfl rfl (fun ox oy ow => b_sadd _ _ _ ox oy ow (by have y1 := c1_ln hX; have y2 := c2_ln (ix s.cases k); have y3 := c3_ln (w := ⟨#[111, 119, 101, 100]⟩) (n := (ix s.cases k).owed) (by decide) hX.owed; have y4 := c3_ln (w := ⟨#[112, 97, 105, 100]⟩) (n := (ix s.cases k).paid) (by decide) hX.paid; have y5 := c5_ln (w := ⟨#[100, 117, 101]⟩) (b := dtS (du s.cfg.law s.cfg.hol (ix s.cases k)).1) (by decide) (Nat.le_trans (dtS_size _) (by decide)); have y6 := c5_ln (w := ⟨#[100, 117, 101]⟩) (b := ⟨#[45]⟩) (by decide) (by decide); have y7 := c5_ln (w := ⟨#[97, 112, 112, 101, 97, 108]⟩) (b := ⟨#[45]⟩) (by decide) (by decide); first | omega | (simp only [ByteArray.size_append]; omega))) rfl)) ?_
      refine dr_put (d := 51) (v := .pt 102 6) rfl (og rfl (of_eff (s_field_pt rfl Tryd.underlying102 rfl ti3 rfl rfl rfl) rfl)) ?_
      refine dr_put (d := 52) (v := .d (.fl (.int .i64 ((ix s.cases k).owed)))) rfl (og rfl (op_load_pt rfl Tryd.underlying3 rfl rfl rfl rfl rfl)) ?_
      refine dr_put (d := 53) (v := .d (.fl (.string ((sh ((ix s.cases k).owed)))))) rfl (og rfl (op_call rfl Tryd.func31 nm31 rfl (.cons rfl (.d _) .nil) (sh34 ((ix s.cases k).owed) hX.owed) rfl)) ?_
      refine dr_put (d := 54) (v := .d (.sl 1 (List.map rS ([⟨#[111, 119, 101, 100]⟩, (sh ((ix s.cases k).owed))])))) rfl (og rfl (of_eff (op_slices rfl Tryd.underlying98 ti9 rfl rfl rfl (by kernel_rfl) (xs := [.fl (.string (⟨#[111, 119, 101, 100]⟩)), .fl (.string ((sh ((ix s.cases k).owed))))]) rfl rfl (.cons rfl rfl (.d _) rfl rfl rfl (.cons rfl rfl (.d _) rfl rfl rfl .nil)) rfl) rfl)) ?_
      refine dr_put (d := 55) (v := .d (.fl (.string ((ln ([⟨#[111, 119, 101, 100]⟩, (sh ((ix s.cases k).owed))])))))) rfl (og rfl (op_call rfl Tryd.func28 nm28 rfl (.cons rfl (.d _) .nil) (ln31 ([⟨#[111, 119, 101, 100]⟩, (sh ((ix s.cases k).owed))]) (Nat.le_trans (c3_jn (by decide) hX.owed) (by decide))) rfl)) ?_
      refine dr_put (d := 56) (v := .d (.fl (.string ((((((ln ([⟨#[99, 97, 115, 101]⟩, (es ((ix s.cases k).id)), (es ((ix s.cases k).plate)), (es ((ix s.cases k).key))]))) ++ ((ln ([⟨#[115, 116, 97, 103, 101]⟩, (wd stw ((ix s.cases k).stage)), (dtS ((ix s.cases k).since))]))))) ++ ((ln ([⟨#[111, 119, 101, 100]⟩, (sh ((ix s.cases k).owed))])))))))) rfl (og rfl (op_bin rfl rfl rfl (fun ox oy ow => b_sadd _ _ _ ox oy ow (by have y1 := c1_ln hX; have y2 := c2_ln (ix s.cases k); have y3 := c3_ln (w := ⟨#[111, 119, 101, 100]⟩) (n := (ix s.cases k).owed) (by decide) hX.owed; have y4 := c3_ln (w := ⟨#[112, 97, 105, 100]⟩) (n := (ix s.cases k).paid) (by decide) hX.paid; have y5 := c5_ln (w := ⟨#[100, 117, 101]⟩) (b := dtS (du s.cfg.law s.cfg.hol (ix s.cases k)).1) (by decide) (Nat.le_trans (dtS_size _) (by decide)); have y6 := c5_ln (w := ⟨#[100, 117, 101]⟩) (b := ⟨#[45]⟩) (by decide) (by decide); have y7 := c5_ln (w := ⟨#[97, 112, 112, 101, 97, 108]⟩) (b := ⟨#[45]⟩) (by decide) (by decide); first | omega | (simp only [ByteArray.size_append]; omega))) rfl)) ?_
      refine dr_put (d := 57) (v := .pt 102 7) rfl (og rfl (of_eff (s_field_pt rfl Tryd.underlying102 rfl ti3 rfl rfl rfl) rfl)) ?_
      refine dr_put (d := 58) (v := .d (.fl (.int .i64 ((ix s.cases k).paid)))) rfl (og rfl (op_load_pt rfl Tryd.underlying3 rfl rfl rfl rfl rfl)) ?_
      refine dr_put (d := 59) (v := .d (.fl (.string ((sh ((ix s.cases k).paid)))))) rfl (og rfl (op_call rfl Tryd.func31 nm31 rfl (.cons rfl (.d _) .nil) (sh34 ((ix s.cases k).paid) hX.paid) rfl)) ?_
      refine dr_put (d := 60) (v := .d (.sl 1 (List.map rS ([⟨#[112, 97, 105, 100]⟩, (sh ((ix s.cases k).paid))])))) rfl (og rfl (of_eff (op_slices rfl Tryd.underlying98 ti9 rfl rfl rfl (by kernel_rfl) (xs := [.fl (.string (⟨#[112, 97, 105, 100]⟩)), .fl (.string ((sh ((ix s.cases k).paid))))]) rfl rfl (.cons rfl rfl (.d _) rfl rfl rfl (.cons rfl rfl (.d _) rfl rfl rfl .nil)) rfl) rfl)) ?_
      refine dr_put (d := 61) (v := .d (.fl (.string ((ln ([⟨#[112, 97, 105, 100]⟩, (sh ((ix s.cases k).paid))])))))) rfl (og rfl (op_call rfl Tryd.func28 nm28 rfl (.cons rfl (.d _) .nil) (ln31 ([⟨#[112, 97, 105, 100]⟩, (sh ((ix s.cases k).paid))]) (Nat.le_trans (c3_jn (by decide) hX.paid) (by decide))) rfl)) ?_
      refine dr_put (d := 62) (v := .d (.fl (.string ((((((((ln ([⟨#[99, 97, 115, 101]⟩, (es ((ix s.cases k).id)), (es ((ix s.cases k).plate)), (es ((ix s.cases k).key))]))) ++ ((ln ([⟨#[115, 116, 97, 103, 101]⟩, (wd stw ((ix s.cases k).stage)), (dtS ((ix s.cases k).since))]))))) ++ ((ln ([⟨#[111, 119, 101, 100]⟩, (sh ((ix s.cases k).owed))]))))) ++ ((ln ([⟨#[112, 97, 105, 100]⟩, (sh ((ix s.cases k).paid))])))))))) rfl (og rfl (op_bin rfl rfl rfl (fun ox oy ow => b_sadd _ _ _ ox oy ow (by have y1 := c1_ln hX; have y2 := c2_ln (ix s.cases k); have y3 := c3_ln (w := ⟨#[111, 119, 101, 100]⟩) (n := (ix s.cases k).owed) (by decide) hX.owed; have y4 := c3_ln (w := ⟨#[112, 97, 105, 100]⟩) (n := (ix s.cases k).paid) (by decide) hX.paid; have y5 := c5_ln (w := ⟨#[100, 117, 101]⟩) (b := dtS (du s.cfg.law s.cfg.hol (ix s.cases k)).1) (by decide) (Nat.le_trans (dtS_size _) (by decide)); have y6 := c5_ln (w := ⟨#[100, 117, 101]⟩) (b := ⟨#[45]⟩) (by decide) (by decide); have y7 := c5_ln (w := ⟨#[97, 112, 112, 101, 97, 108]⟩) (b := ⟨#[45]⟩) (by decide) (by decide); first | omega | (simp only [ByteArray.size_append]; omega))) rfl)) ?_
      refine dr_put (d := 9) (v := .d (.fl (.string ((((((((ln ([⟨#[99, 97, 115, 101]⟩, (es ((ix s.cases k).id)), (es ((ix s.cases k).plate)), (es ((ix s.cases k).key))]))) ++ ((ln ([⟨#[115, 116, 97, 103, 101]⟩, (wd stw ((ix s.cases k).stage)), (dtS ((ix s.cases k).since))]))))) ++ ((ln ([⟨#[111, 119, 101, 100]⟩, (sh ((ix s.cases k).owed))]))))) ++ ((ln ([⟨#[112, 97, 105, 100]⟩, (sh ((ix s.cases k).paid))])))))))) rfl (og rfl (op_assign rfl rfl rfl)) ?_
      refine dr_done rfl (sepB_of [0, 1, 3, 0, 8, 31, 0, 64, 255, 511, 1023, 0, 0, 4096, 14335, 32767, 65535, 131071, 0, 262144, 917503, 1966079, 4063231, 8388607, 0, 16777216, 58589183, 125698047, 259915775, 536870911, 1073741823] (by kernel_rfl)) (by kernel_rfl) ?_
      refine a_rseq ?_
      refine rg_put (d := 64) (v := .pt 101 0) rfl (og rfl (of_eff (s_field_pt rfl Tryd.underlying70 rfl ti52 rfl rfl rfl) rfl)) ?_
      refine rg_put (d := 65) (v := .pt 101 20) rfl (og rfl (of_eff (s_field_pt rfl Tryd.underlying52 rfl ti49 rfl rfl rfl) rfl)) ?_
      refine rg_put (d := 66) (v := .d (.ag (eLw s.cfg.law))) rfl (og rfl (of_eff (s_load_pts rfl Tryd.underlying49 rfl ti49 rfl rfl rfl rfl) rfl)) ?_
      refine rg_put (d := 67) (v := .pt 101 0) rfl (og rfl (of_eff (s_field_pt rfl Tryd.underlying70 rfl ti52 rfl rfl rfl) rfl)) ?_
      refine rg_put (d := 68) (v := .pt 101 19) rfl (og rfl (of_eff (s_field_pt rfl Tryd.underlying52 rfl ti39 rfl rfl rfl) rfl)) ?_
      refine rg_put (d := 69) (v := .d (.sl 1 (List.map (rI .i64) s.cfg.hol))) rfl (og rfl (op_load_pt rfl Tryd.underlying39 rfl rfl rfl rfl rfl)) ?_
      refine rg_put (d := 70) (v := .d (.ag (eCs (ix s.cases k)))) rfl (og rfl (of_eff (s_load_pts rfl Tryd.underlying102 rfl ti102 rfl rfl rfl rfl) rfl)) ?_
      refine rg_put (d := 71) (v := .tu [.fl (.int .i64 ((du s.cfg.law s.cfg.hol (ix s.cases k)).1)), .fl (.bool ((du s.cfg.law s.cfg.hol (ix s.cases k)).2))]) rfl (og rfl (op_call rfl Tryd.func52 nm52 rfl (.cons rfl (.d _) (.cons rfl (.d _) (.cons rfl (.d _) .nil))) (du20 s.cfg.law s.cfg.hol (ix s.cases k) hQ.hol) rfl)) ?_
      refine rg_put (d := 63) (v := .tu [.fl (.int .i64 ((du s.cfg.law s.cfg.hol (ix s.cases k)).1)), .fl (.bool ((du s.cfg.law s.cfg.hol (ix s.cases k)).2))]) rfl (og rfl (op_move rfl rfl rfl)) ?_
      refine rg_put (d := 72) (v := .d (.fl (.int .i64 ((du s.cfg.law s.cfg.hol (ix s.cases k)).1)))) rfl (og rfl (op_extract rfl rfl rfl rfl)) ?_
      refine rg_put (d := 73) (v := .d (.fl (.bool ((du s.cfg.law s.cfg.hol (ix s.cases k)).2)))) rfl (og rfl (op_extract rfl rfl rfl rfl)) ?_
      refine rg_put (d := 10) (v := .d (.fl (.int .i64 ((du s.cfg.law s.cfg.hol (ix s.cases k)).1)))) rfl (og rfl (op_assign rfl rfl rfl)) ?_
      refine rg_put (d := 11) (v := .d (.fl (.bool ((du s.cfg.law s.cfg.hol (ix s.cases k)).2)))) rfl (og rfl (op_assign rfl rfl rfl)) ?_
      refine rg_done rfl ?_
      refine a_seq ?_
      refine a_rseq ?_
      refine rg_put (d := 74) (v := .d (.fl (.bool ((du s.cfg.law s.cfg.hol (ix s.cases k)).2)))) rfl (og rfl (op_move rfl rfl rfl)) ?_
      refine rg_done rfl ?_
      refine a_cond rfl (fun h6 => ?_) (fun h6 => ?_)
      · skip
        refine a_region ?_
        refine rg_put (d := 75) (v := .d (.fl (.string ((((((((ln ([⟨#[99, 97, 115, 101]⟩, (es ((ix s.cases k).id)), (es ((ix s.cases k).plate)), (es ((ix s.cases k).key))]))) ++ ((ln ([⟨#[115, 116, 97, 103, 101]⟩, (wd stw ((ix s.cases k).stage)), (dtS ((ix s.cases k).since))]))))) ++ ((ln ([⟨#[111, 119, 101, 100]⟩, (sh ((ix s.cases k).owed))]))))) ++ ((ln ([⟨#[112, 97, 105, 100]⟩, (sh ((ix s.cases k).paid))])))))))) rfl (og rfl (op_move rfl rfl rfl)) ?_
        refine rg_put (d := 76) (v := .d (.fl (.int .i64 ((du s.cfg.law s.cfg.hol (ix s.cases k)).1)))) rfl (og rfl (op_move rfl rfl rfl)) ?_
        refine rg_put (d := 77) (v := .d (.fl (.string ((dtS ((du s.cfg.law s.cfg.hol (ix s.cases k)).1)))))) rfl (og rfl (op_call rfl Tryd.func37 nm37 rfl (.cons rfl (.d _) .nil) (date40 ((du s.cfg.law s.cfg.hol (ix s.cases k)).1)) rfl)) ?_
        refine rg_put (d := 78) (v := .d (.sl 1 (List.map rS ([⟨#[100, 117, 101]⟩, (dtS ((du s.cfg.law s.cfg.hol (ix s.cases k)).1))])))) rfl (og rfl (of_eff (op_slices rfl Tryd.underlying98 ti9 rfl rfl rfl (by kernel_rfl) (xs := [.fl (.string (⟨#[100, 117, 101]⟩)), .fl (.string ((dtS ((du s.cfg.law s.cfg.hol (ix s.cases k)).1))))]) rfl rfl (.cons rfl rfl (.d _) rfl rfl rfl (.cons rfl rfl (.d _) rfl rfl rfl .nil)) rfl) rfl)) ?_
        refine rg_put (d := 79) (v := .d (.fl (.string ((ln ([⟨#[100, 117, 101]⟩, (dtS ((du s.cfg.law s.cfg.hol (ix s.cases k)).1))])))))) rfl (og rfl (op_call rfl Tryd.func28 nm28 rfl (.cons rfl (.d _) .nil) (ln31 ([⟨#[100, 117, 101]⟩, (dtS ((du s.cfg.law s.cfg.hol (ix s.cases k)).1))]) (Nat.le_trans (c5_jn (by decide) (Nat.le_trans (dtS_size _) (by decide))) (by decide))) rfl)) ?_
        refine rg_put (d := 80) (v := .d (.fl (.string ((((((((((ln ([⟨#[99, 97, 115, 101]⟩, (es ((ix s.cases k).id)), (es ((ix s.cases k).plate)), (es ((ix s.cases k).key))]))) ++ ((ln ([⟨#[115, 116, 97, 103, 101]⟩, (wd stw ((ix s.cases k).stage)), (dtS ((ix s.cases k).since))]))))) ++ ((ln ([⟨#[111, 119, 101, 100]⟩, (sh ((ix s.cases k).owed))]))))) ++ ((ln ([⟨#[112, 97, 105, 100]⟩, (sh ((ix s.cases k).paid))]))))) ++ ((ln ([⟨#[100, 117, 101]⟩, (dtS ((du s.cfg.law s.cfg.hol (ix s.cases k)).1))])))))))) rfl (og rfl (op_bin rfl rfl rfl (fun ox oy ow => b_sadd _ _ _ ox oy ow (by have y1 := c1_ln hX; have y2 := c2_ln (ix s.cases k); have y3 := c3_ln (w := ⟨#[111, 119, 101, 100]⟩) (n := (ix s.cases k).owed) (by decide) hX.owed; have y4 := c3_ln (w := ⟨#[112, 97, 105, 100]⟩) (n := (ix s.cases k).paid) (by decide) hX.paid; have y5 := c5_ln (w := ⟨#[100, 117, 101]⟩) (b := dtS (du s.cfg.law s.cfg.hol (ix s.cases k)).1) (by decide) (Nat.le_trans (dtS_size _) (by decide)); have y6 := c5_ln (w := ⟨#[100, 117, 101]⟩) (b := ⟨#[45]⟩) (by decide) (by decide); have y7 := c5_ln (w := ⟨#[97, 112, 112, 101, 97, 108]⟩) (b := ⟨#[45]⟩) (by decide) (by decide); first | omega | (simp only [ByteArray.size_append]; omega))) rfl)) ?_
        refine rg_put (d := 9) (v := .d (.fl (.string ((((((((((ln ([⟨#[99, 97, 115, 101]⟩, (es ((ix s.cases k).id)), (es ((ix s.cases k).plate)), (es ((ix s.cases k).key))]))) ++ ((ln ([⟨#[115, 116, 97, 103, 101]⟩, (wd stw ((ix s.cases k).stage)), (dtS ((ix s.cases k).since))]))))) ++ ((ln ([⟨#[111, 119, 101, 100]⟩, (sh ((ix s.cases k).owed))]))))) ++ ((ln ([⟨#[112, 97, 105, 100]⟩, (sh ((ix s.cases k).paid))]))))) ++ ((ln ([⟨#[100, 117, 101]⟩, (dtS ((du s.cfg.law s.cfg.hol (ix s.cases k)).1))])))))))) rfl (og rfl (op_assign rfl rfl rfl)) ?_
        refine rg_done rfl ?_
        show A _ _ _ _ _ _ _
        refine a_rseq ?_
        refine rg_put (d := 85) (v := .d (.sl 1 (List.map rS ([⟨#[102, 105, 108, 101, 100]⟩, ⟨#[117, 112, 104, 101, 108, 100]⟩, ⟨#[100, 101, 110, 105, 101, 100]⟩])))) rfl (og rfl (of_eff (op_slices rfl Tryd.underlying98 ti9 rfl rfl rfl (by kernel_rfl) (xs := [.fl (.string (⟨#[102, 105, 108, 101, 100]⟩)), .fl (.string (⟨#[117, 112, 104, 101, 108, 100]⟩)), .fl (.string (⟨#[100, 101, 110, 105, 101, 100]⟩))]) rfl rfl (.cons rfl rfl (.d _) rfl rfl rfl (.cons rfl rfl (.d _) rfl rfl rfl (.cons rfl rfl (.d _) rfl rfl rfl .nil))) rfl) rfl)) ?_
        refine rg_put (d := 86) (v := .pt 102 9) rfl (og rfl (of_eff (s_field_pt rfl Tryd.underlying102 rfl ti100 rfl rfl rfl) rfl)) ?_
        refine rg_put (d := 87) (v := .pt 102 9) rfl (og rfl (of_eff (s_field_pt rfl Tryd.underlying100 rfl ti3 rfl rfl rfl) rfl)) ?_
        refine rg_put (d := 88) (v := .d (.fl (.int .i64 (((ix s.cases k).ap).state)))) rfl (og rfl (op_load_pt rfl Tryd.underlying3 rfl rfl rfl rfl rfl)) ?_
        refine rg_put (d := 89) (v := .d (.fl (.string ((wd apw (((ix s.cases k).ap).state)))))) rfl (og rfl (op_call rfl Tryd.func51 nm51 rfl (.cons rfl (.d _) (.cons rfl (.d _) .nil)) (wd51 apw (((ix s.cases k).ap).state) (by decide)) rfl)) ?_
        refine rg_put (d := 12) (v := .d (.fl (.string ((wd apw (((ix s.cases k).ap).state)))))) rfl (og rfl (op_assign rfl rfl rfl)) ?_
        refine rg_done rfl ?_
        refine a_seq ?_
        refine a_rseq ?_
        refine rg_put (d := 90) (v := .d (.fl (.string ((wd apw (((ix s.cases k).ap).state)))))) rfl (og rfl (op_move rfl rfl rfl)) ?_
        refine rg_put (d := 91) (v := .d (.fl (.bool ((sEq ((wd apw (((ix s.cases k).ap).state))) (⟨#[45]⟩)))))) rfl (og rfl (op_bin rfl rfl rfl (b_seq _ _ _) rfl)) ?_
        refine rg_done rfl ?_
        refine a_cond rfl (fun h7 => ?_) (fun h7 => ?_)
        · skip
          refine a_rseq ?_
          refine rg_put (d := 92) (v := .d (.fl (.string ((((((((((ln ([⟨#[99, 97, 115, 101]⟩, (es ((ix s.cases k).id)), (es ((ix s.cases k).plate)), (es ((ix s.cases k).key))]))) ++ ((ln ([⟨#[115, 116, 97, 103, 101]⟩, (wd stw ((ix s.cases k).stage)), (dtS ((ix s.cases k).since))]))))) ++ ((ln ([⟨#[111, 119, 101, 100]⟩, (sh ((ix s.cases k).owed))]))))) ++ ((ln ([⟨#[112, 97, 105, 100]⟩, (sh ((ix s.cases k).paid))]))))) ++ ((ln ([⟨#[100, 117, 101]⟩, (dtS ((du s.cfg.law s.cfg.hol (ix s.cases k)).1))])))))))) rfl (og rfl (op_move rfl rfl rfl)) ?_
          refine rg_put (d := 93) (v := .d (.sl 1 (List.map rS ([⟨#[97, 112, 112, 101, 97, 108]⟩, ⟨#[45]⟩])))) rfl (og rfl (of_eff (op_slices rfl Tryd.underlying98 ti9 rfl rfl rfl (by kernel_rfl) (xs := [.fl (.string (⟨#[97, 112, 112, 101, 97, 108]⟩)), .fl (.string (⟨#[45]⟩))]) rfl rfl (.cons rfl rfl (.d _) rfl rfl rfl (.cons rfl rfl (.d _) rfl rfl rfl .nil)) rfl) rfl)) ?_
          refine rg_put (d := 94) (v := .d (.fl (.string ((ln ([⟨#[97, 112, 112, 101, 97, 108]⟩, ⟨#[45]⟩])))))) rfl (og rfl (op_call rfl Tryd.func28 nm28 rfl (.cons rfl (.d _) .nil) (ln31 ([⟨#[97, 112, 112, 101, 97, 108]⟩, ⟨#[45]⟩]) (Nat.le_trans (c5_jn (by decide) (by decide)) (by decide))) rfl)) ?_
          refine rg_put (d := 95) (v := .d (.fl (.string ((((((((((((ln ([⟨#[99, 97, 115, 101]⟩, (es ((ix s.cases k).id)), (es ((ix s.cases k).plate)), (es ((ix s.cases k).key))]))) ++ ((ln ([⟨#[115, 116, 97, 103, 101]⟩, (wd stw ((ix s.cases k).stage)), (dtS ((ix s.cases k).since))]))))) ++ ((ln ([⟨#[111, 119, 101, 100]⟩, (sh ((ix s.cases k).owed))]))))) ++ ((ln ([⟨#[112, 97, 105, 100]⟩, (sh ((ix s.cases k).paid))]))))) ++ ((ln ([⟨#[100, 117, 101]⟩, (dtS ((du s.cfg.law s.cfg.hol (ix s.cases k)).1))]))))) ++ ((ln ([⟨#[97, 112, 112, 101, 97, 108]⟩, ⟨#[45]⟩])))))))) rfl (og rfl (op_bin rfl rfl rfl (fun ox oy ow => b_sadd _ _ _ ox oy ow (by have y1 := c1_ln hX; have y2 := c2_ln (ix s.cases k); have y3 := c3_ln (w := ⟨#[111, 119, 101, 100]⟩) (n := (ix s.cases k).owed) (by decide) hX.owed; have y4 := c3_ln (w := ⟨#[112, 97, 105, 100]⟩) (n := (ix s.cases k).paid) (by decide) hX.paid; have y5 := c5_ln (w := ⟨#[100, 117, 101]⟩) (b := dtS (du s.cfg.law s.cfg.hol (ix s.cases k)).1) (by decide) (Nat.le_trans (dtS_size _) (by decide)); have y6 := c5_ln (w := ⟨#[100, 117, 101]⟩) (b := ⟨#[45]⟩) (by decide) (by decide); have y7 := c5_ln (w := ⟨#[97, 112, 112, 101, 97, 108]⟩) (b := ⟨#[45]⟩) (by decide) (by decide); first | omega | (simp only [ByteArray.size_append]; omega))) rfl)) ?_
          refine rg_put (d := 4) (v := .d (.fl (.string ((((((((((((ln ([⟨#[99, 97, 115, 101]⟩, (es ((ix s.cases k).id)), (es ((ix s.cases k).plate)), (es ((ix s.cases k).key))]))) ++ ((ln ([⟨#[115, 116, 97, 103, 101]⟩, (wd stw ((ix s.cases k).stage)), (dtS ((ix s.cases k).since))]))))) ++ ((ln ([⟨#[111, 119, 101, 100]⟩, (sh ((ix s.cases k).owed))]))))) ++ ((ln ([⟨#[112, 97, 105, 100]⟩, (sh ((ix s.cases k).paid))]))))) ++ ((ln ([⟨#[100, 117, 101]⟩, (dtS ((du s.cfg.law s.cfg.hol (ix s.cases k)).1))]))))) ++ ((ln ([⟨#[97, 112, 112, 101, 97, 108]⟩, ⟨#[45]⟩])))))))) rfl (og rfl (op_assign rfl rfl rfl)) ?_
          refine rg_put (d := 5) (v := .d (.fl (.int .i64 0))) rfl (og rfl (op_assign rfl rfl rfl)) ?_
          refine rg_done rfl ?_
          refine a_ret ?_
          show ∃ ds, ResL _ _ _ ds ∧ RV.of ds = _
          refine ⟨[.fl (.string ((((((((((((ln ([⟨#[99, 97, 115, 101]⟩, (es ((ix s.cases k).id)), (es ((ix s.cases k).plate)), (es ((ix s.cases k).key))]))) ++ ((ln ([⟨#[115, 116, 97, 103, 101]⟩, (wd stw ((ix s.cases k).stage)), (dtS ((ix s.cases k).since))]))))) ++ ((ln ([⟨#[111, 119, 101, 100]⟩, (sh ((ix s.cases k).owed))]))))) ++ ((ln ([⟨#[112, 97, 105, 100]⟩, (sh ((ix s.cases k).paid))]))))) ++ ((ln ([⟨#[100, 117, 101]⟩, (dtS ((du s.cfg.law s.cfg.hol (ix s.cases k)).1))]))))) ++ ((ln ([⟨#[97, 112, 112, 101, 97, 108]⟩, ⟨#[45]⟩])))))), .fl (.int .i64 0)], (.cons (.tmp rfl (.d _)) (.cons (.tmp rfl (.d _)) .nil)), ?_⟩
          have hu : cix s.cases id = (k : Int) := idx_at (by omega) hq h5
          rw [ceS_at hu]
          show _ = RV.tu [.fl (.string (cS s (ix s.cases k))), .fl (.int .i64 0)]
          unfold cS
          rw [dueT_yes h6, apT_dash h7]; rfl
        · skip
          refine a_skip ?_
          show A _ _ _ _ _ _ _
          refine a_rseq ?_
          refine rg_put (d := 96) (v := .d (.fl (.string ((((((((((ln ([⟨#[99, 97, 115, 101]⟩, (es ((ix s.cases k).id)), (es ((ix s.cases k).plate)), (es ((ix s.cases k).key))]))) ++ ((ln ([⟨#[115, 116, 97, 103, 101]⟩, (wd stw ((ix s.cases k).stage)), (dtS ((ix s.cases k).since))]))))) ++ ((ln ([⟨#[111, 119, 101, 100]⟩, (sh ((ix s.cases k).owed))]))))) ++ ((ln ([⟨#[112, 97, 105, 100]⟩, (sh ((ix s.cases k).paid))]))))) ++ ((ln ([⟨#[100, 117, 101]⟩, (dtS ((du s.cfg.law s.cfg.hol (ix s.cases k)).1))])))))))) rfl (og rfl (op_move rfl rfl rfl)) ?_
          refine rg_put (d := 97) (v := .d (.fl (.string ((wd apw (((ix s.cases k).ap).state)))))) rfl (og rfl (op_move rfl rfl rfl)) ?_
          refine rg_put (d := 98) (v := .pt 102 9) rfl (og rfl (of_eff (s_field_pt rfl Tryd.underlying102 rfl ti100 rfl rfl rfl) rfl)) ?_
          refine rg_put (d := 99) (v := .pt 102 11) rfl (og rfl (of_eff (s_field_pt rfl Tryd.underlying100 rfl ti3 rfl rfl rfl) rfl)) ?_
          refine rg_put (d := 100) (v := .d (.fl (.int .i64 (((ix s.cases k).ap).day)))) rfl (og rfl (op_load_pt rfl Tryd.underlying3 rfl rfl rfl rfl rfl)) ?_
          refine rg_put (d := 101) (v := .d (.fl (.string ((dtS (((ix s.cases k).ap).day)))))) rfl (og rfl (op_call rfl Tryd.func37 nm37 rfl (.cons rfl (.d _) .nil) (date40 (((ix s.cases k).ap).day)) rfl)) ?_
          refine rg_put (d := 102) (v := .d (.sl 1 (List.map rS ([⟨#[97, 112, 112, 101, 97, 108]⟩, (wd apw (((ix s.cases k).ap).state)), (dtS (((ix s.cases k).ap).day))])))) rfl (og rfl (of_eff (op_slices rfl Tryd.underlying98 ti9 rfl rfl rfl (by kernel_rfl) (xs := [.fl (.string (⟨#[97, 112, 112, 101, 97, 108]⟩)), .fl (.string ((wd apw (((ix s.cases k).ap).state)))), .fl (.string ((dtS (((ix s.cases k).ap).day))))]) rfl rfl (.cons rfl rfl (.d _) rfl rfl rfl (.cons rfl rfl (.d _) rfl rfl rfl (.cons rfl rfl (.d _) rfl rfl rfl .nil))) rfl) rfl)) ?_
          refine rg_put (d := 103) (v := .d (.fl (.string ((ln ([⟨#[97, 112, 112, 101, 97, 108]⟩, (wd apw (((ix s.cases k).ap).state)), (dtS (((ix s.cases k).ap).day))])))))) rfl (og rfl (op_call rfl Tryd.func28 nm28 rfl (.cons rfl (.d _) .nil) (ln31 ([⟨#[97, 112, 112, 101, 97, 108]⟩, (wd apw (((ix s.cases k).ap).state)), (dtS (((ix s.cases k).ap).day))]) (by rw [← jn_jn, ← apT_in h7]; exact Nat.le_trans (c5_jn (by decide) (apT_size _)) (by decide))) rfl)) ?_
          refine rg_put (d := 104) (v := .d (.fl (.string ((((((((((((ln ([⟨#[99, 97, 115, 101]⟩, (es ((ix s.cases k).id)), (es ((ix s.cases k).plate)), (es ((ix s.cases k).key))]))) ++ ((ln ([⟨#[115, 116, 97, 103, 101]⟩, (wd stw ((ix s.cases k).stage)), (dtS ((ix s.cases k).since))]))))) ++ ((ln ([⟨#[111, 119, 101, 100]⟩, (sh ((ix s.cases k).owed))]))))) ++ ((ln ([⟨#[112, 97, 105, 100]⟩, (sh ((ix s.cases k).paid))]))))) ++ ((ln ([⟨#[100, 117, 101]⟩, (dtS ((du s.cfg.law s.cfg.hol (ix s.cases k)).1))]))))) ++ ((ln ([⟨#[97, 112, 112, 101, 97, 108]⟩, (wd apw (((ix s.cases k).ap).state)), (dtS (((ix s.cases k).ap).day))])))))))) rfl (og rfl (op_bin rfl rfl rfl (fun ox oy ow => b_sadd _ _ _ ox oy ow (by have y1 := c1_ln hX; have y2 := c2_ln (ix s.cases k); have y3 := c3_ln (w := ⟨#[111, 119, 101, 100]⟩) (n := (ix s.cases k).owed) (by decide) hX.owed; have y4 := c3_ln (w := ⟨#[112, 97, 105, 100]⟩) (n := (ix s.cases k).paid) (by decide) hX.paid; have y5 := c5_ln (w := ⟨#[100, 117, 101]⟩) (b := dtS (du s.cfg.law s.cfg.hol (ix s.cases k)).1) (by decide) (Nat.le_trans (dtS_size _) (by decide)); have y6 := c5_ln (w := ⟨#[100, 117, 101]⟩) (b := ⟨#[45]⟩) (by decide) (by decide); have y7 := c5_ln (w := ⟨#[97, 112, 112, 101, 97, 108]⟩) (b := ⟨#[45]⟩) (by decide) (by decide); have y8 := c5_ln (w := ⟨#[97, 112, 112, 101, 97, 108]⟩) (b := apT (ix s.cases k).ap) (by decide) (apT_size _); rw [apT_in h7, jn_ln] at y8; first | omega | (simp only [ByteArray.size_append]; omega))) rfl)) ?_
          refine rg_put (d := 4) (v := .d (.fl (.string ((((((((((((ln ([⟨#[99, 97, 115, 101]⟩, (es ((ix s.cases k).id)), (es ((ix s.cases k).plate)), (es ((ix s.cases k).key))]))) ++ ((ln ([⟨#[115, 116, 97, 103, 101]⟩, (wd stw ((ix s.cases k).stage)), (dtS ((ix s.cases k).since))]))))) ++ ((ln ([⟨#[111, 119, 101, 100]⟩, (sh ((ix s.cases k).owed))]))))) ++ ((ln ([⟨#[112, 97, 105, 100]⟩, (sh ((ix s.cases k).paid))]))))) ++ ((ln ([⟨#[100, 117, 101]⟩, (dtS ((du s.cfg.law s.cfg.hol (ix s.cases k)).1))]))))) ++ ((ln ([⟨#[97, 112, 112, 101, 97, 108]⟩, (wd apw (((ix s.cases k).ap).state)), (dtS (((ix s.cases k).ap).day))])))))))) rfl (og rfl (op_assign rfl rfl rfl)) ?_
          refine rg_put (d := 5) (v := .d (.fl (.int .i64 0))) rfl (og rfl (op_assign rfl rfl rfl)) ?_
          refine rg_done rfl ?_
          refine a_ret ?_
          show ∃ ds, ResL _ _ _ ds ∧ RV.of ds = _
          refine ⟨[.fl (.string ((((((((((((ln ([⟨#[99, 97, 115, 101]⟩, (es ((ix s.cases k).id)), (es ((ix s.cases k).plate)), (es ((ix s.cases k).key))]))) ++ ((ln ([⟨#[115, 116, 97, 103, 101]⟩, (wd stw ((ix s.cases k).stage)), (dtS ((ix s.cases k).since))]))))) ++ ((ln ([⟨#[111, 119, 101, 100]⟩, (sh ((ix s.cases k).owed))]))))) ++ ((ln ([⟨#[112, 97, 105, 100]⟩, (sh ((ix s.cases k).paid))]))))) ++ ((ln ([⟨#[100, 117, 101]⟩, (dtS ((du s.cfg.law s.cfg.hol (ix s.cases k)).1))]))))) ++ ((ln ([⟨#[97, 112, 112, 101, 97, 108]⟩, (wd apw (((ix s.cases k).ap).state)), (dtS (((ix s.cases k).ap).day))])))))), .fl (.int .i64 0)], (.cons (.tmp rfl (.d _)) (.cons (.tmp rfl (.d _)) .nil)), ?_⟩
          have hu : cix s.cases id = (k : Int) := idx_at (by omega) hq h5
          rw [ceS_at hu]
          show _ = RV.tu [.fl (.string (cS s (ix s.cases k))), .fl (.int .i64 0)]
          unfold cS
          rw [dueT_yes h6, apT_in h7, jn_ln]; rfl
      · skip
        refine a_region ?_
        refine rg_put (d := 81) (v := .d (.fl (.string ((((((((ln ([⟨#[99, 97, 115, 101]⟩, (es ((ix s.cases k).id)), (es ((ix s.cases k).plate)), (es ((ix s.cases k).key))]))) ++ ((ln ([⟨#[115, 116, 97, 103, 101]⟩, (wd stw ((ix s.cases k).stage)), (dtS ((ix s.cases k).since))]))))) ++ ((ln ([⟨#[111, 119, 101, 100]⟩, (sh ((ix s.cases k).owed))]))))) ++ ((ln ([⟨#[112, 97, 105, 100]⟩, (sh ((ix s.cases k).paid))])))))))) rfl (og rfl (op_move rfl rfl rfl)) ?_
        refine rg_put (d := 82) (v := .d (.sl 1 (List.map rS ([⟨#[100, 117, 101]⟩, ⟨#[45]⟩])))) rfl (og rfl (of_eff (op_slices rfl Tryd.underlying98 ti9 rfl rfl rfl (by kernel_rfl) (xs := [.fl (.string (⟨#[100, 117, 101]⟩)), .fl (.string (⟨#[45]⟩))]) rfl rfl (.cons rfl rfl (.d _) rfl rfl rfl (.cons rfl rfl (.d _) rfl rfl rfl .nil)) rfl) rfl)) ?_
        refine rg_put (d := 83) (v := .d (.fl (.string ((ln ([⟨#[100, 117, 101]⟩, ⟨#[45]⟩])))))) rfl (og rfl (op_call rfl Tryd.func28 nm28 rfl (.cons rfl (.d _) .nil) (ln31 ([⟨#[100, 117, 101]⟩, ⟨#[45]⟩]) (Nat.le_trans (c5_jn (by decide) (by decide)) (by decide))) rfl)) ?_
        refine rg_put (d := 84) (v := .d (.fl (.string ((((((((((ln ([⟨#[99, 97, 115, 101]⟩, (es ((ix s.cases k).id)), (es ((ix s.cases k).plate)), (es ((ix s.cases k).key))]))) ++ ((ln ([⟨#[115, 116, 97, 103, 101]⟩, (wd stw ((ix s.cases k).stage)), (dtS ((ix s.cases k).since))]))))) ++ ((ln ([⟨#[111, 119, 101, 100]⟩, (sh ((ix s.cases k).owed))]))))) ++ ((ln ([⟨#[112, 97, 105, 100]⟩, (sh ((ix s.cases k).paid))]))))) ++ ((ln ([⟨#[100, 117, 101]⟩, ⟨#[45]⟩])))))))) rfl (og rfl (op_bin rfl rfl rfl (fun ox oy ow => b_sadd _ _ _ ox oy ow (by have y1 := c1_ln hX; have y2 := c2_ln (ix s.cases k); have y3 := c3_ln (w := ⟨#[111, 119, 101, 100]⟩) (n := (ix s.cases k).owed) (by decide) hX.owed; have y4 := c3_ln (w := ⟨#[112, 97, 105, 100]⟩) (n := (ix s.cases k).paid) (by decide) hX.paid; have y5 := c5_ln (w := ⟨#[100, 117, 101]⟩) (b := dtS (du s.cfg.law s.cfg.hol (ix s.cases k)).1) (by decide) (Nat.le_trans (dtS_size _) (by decide)); have y6 := c5_ln (w := ⟨#[100, 117, 101]⟩) (b := ⟨#[45]⟩) (by decide) (by decide); have y7 := c5_ln (w := ⟨#[97, 112, 112, 101, 97, 108]⟩) (b := ⟨#[45]⟩) (by decide) (by decide); first | omega | (simp only [ByteArray.size_append]; omega))) rfl)) ?_
        refine rg_put (d := 9) (v := .d (.fl (.string ((((((((((ln ([⟨#[99, 97, 115, 101]⟩, (es ((ix s.cases k).id)), (es ((ix s.cases k).plate)), (es ((ix s.cases k).key))]))) ++ ((ln ([⟨#[115, 116, 97, 103, 101]⟩, (wd stw ((ix s.cases k).stage)), (dtS ((ix s.cases k).since))]))))) ++ ((ln ([⟨#[111, 119, 101, 100]⟩, (sh ((ix s.cases k).owed))]))))) ++ ((ln ([⟨#[112, 97, 105, 100]⟩, (sh ((ix s.cases k).paid))]))))) ++ ((ln ([⟨#[100, 117, 101]⟩, ⟨#[45]⟩])))))))) rfl (og rfl (op_assign rfl rfl rfl)) ?_
        refine rg_done rfl ?_
        show A _ _ _ _ _ _ _
        refine a_rseq ?_
        refine rg_put (d := 85) (v := .d (.sl 1 (List.map rS ([⟨#[102, 105, 108, 101, 100]⟩, ⟨#[117, 112, 104, 101, 108, 100]⟩, ⟨#[100, 101, 110, 105, 101, 100]⟩])))) rfl (og rfl (of_eff (op_slices rfl Tryd.underlying98 ti9 rfl rfl rfl (by kernel_rfl) (xs := [.fl (.string (⟨#[102, 105, 108, 101, 100]⟩)), .fl (.string (⟨#[117, 112, 104, 101, 108, 100]⟩)), .fl (.string (⟨#[100, 101, 110, 105, 101, 100]⟩))]) rfl rfl (.cons rfl rfl (.d _) rfl rfl rfl (.cons rfl rfl (.d _) rfl rfl rfl (.cons rfl rfl (.d _) rfl rfl rfl .nil))) rfl) rfl)) ?_
        refine rg_put (d := 86) (v := .pt 102 9) rfl (og rfl (of_eff (s_field_pt rfl Tryd.underlying102 rfl ti100 rfl rfl rfl) rfl)) ?_
        refine rg_put (d := 87) (v := .pt 102 9) rfl (og rfl (of_eff (s_field_pt rfl Tryd.underlying100 rfl ti3 rfl rfl rfl) rfl)) ?_
        refine rg_put (d := 88) (v := .d (.fl (.int .i64 (((ix s.cases k).ap).state)))) rfl (og rfl (op_load_pt rfl Tryd.underlying3 rfl rfl rfl rfl rfl)) ?_
        refine rg_put (d := 89) (v := .d (.fl (.string ((wd apw (((ix s.cases k).ap).state)))))) rfl (og rfl (op_call rfl Tryd.func51 nm51 rfl (.cons rfl (.d _) (.cons rfl (.d _) .nil)) (wd51 apw (((ix s.cases k).ap).state) (by decide)) rfl)) ?_
        refine rg_put (d := 12) (v := .d (.fl (.string ((wd apw (((ix s.cases k).ap).state)))))) rfl (og rfl (op_assign rfl rfl rfl)) ?_
        refine rg_done rfl ?_
        refine a_seq ?_
        refine a_rseq ?_
        refine rg_put (d := 90) (v := .d (.fl (.string ((wd apw (((ix s.cases k).ap).state)))))) rfl (og rfl (op_move rfl rfl rfl)) ?_
        refine rg_put (d := 91) (v := .d (.fl (.bool ((sEq ((wd apw (((ix s.cases k).ap).state))) (⟨#[45]⟩)))))) rfl (og rfl (op_bin rfl rfl rfl (b_seq _ _ _) rfl)) ?_
        refine rg_done rfl ?_
        refine a_cond rfl (fun h8 => ?_) (fun h8 => ?_)
        · skip
          refine a_rseq ?_
          refine rg_put (d := 92) (v := .d (.fl (.string ((((((((((ln ([⟨#[99, 97, 115, 101]⟩, (es ((ix s.cases k).id)), (es ((ix s.cases k).plate)), (es ((ix s.cases k).key))]))) ++ ((ln ([⟨#[115, 116, 97, 103, 101]⟩, (wd stw ((ix s.cases k).stage)), (dtS ((ix s.cases k).since))]))))) ++ ((ln ([⟨#[111, 119, 101, 100]⟩, (sh ((ix s.cases k).owed))]))))) ++ ((ln ([⟨#[112, 97, 105, 100]⟩, (sh ((ix s.cases k).paid))]))))) ++ ((ln ([⟨#[100, 117, 101]⟩, ⟨#[45]⟩])))))))) rfl (og rfl (op_move rfl rfl rfl)) ?_
          refine rg_put (d := 93) (v := .d (.sl 1 (List.map rS ([⟨#[97, 112, 112, 101, 97, 108]⟩, ⟨#[45]⟩])))) rfl (og rfl (of_eff (op_slices rfl Tryd.underlying98 ti9 rfl rfl rfl (by kernel_rfl) (xs := [.fl (.string (⟨#[97, 112, 112, 101, 97, 108]⟩)), .fl (.string (⟨#[45]⟩))]) rfl rfl (.cons rfl rfl (.d _) rfl rfl rfl (.cons rfl rfl (.d _) rfl rfl rfl .nil)) rfl) rfl)) ?_
          refine rg_put (d := 94) (v := .d (.fl (.string ((ln ([⟨#[97, 112, 112, 101, 97, 108]⟩, ⟨#[45]⟩])))))) rfl (og rfl (op_call rfl Tryd.func28 nm28 rfl (.cons rfl (.d _) .nil) (ln31 ([⟨#[97, 112, 112, 101, 97, 108]⟩, ⟨#[45]⟩]) (Nat.le_trans (c5_jn (by decide) (by decide)) (by decide))) rfl)) ?_
          refine rg_put (d := 95) (v := .d (.fl (.string ((((((((((((ln ([⟨#[99, 97, 115, 101]⟩, (es ((ix s.cases k).id)), (es ((ix s.cases k).plate)), (es ((ix s.cases k).key))]))) ++ ((ln ([⟨#[115, 116, 97, 103, 101]⟩, (wd stw ((ix s.cases k).stage)), (dtS ((ix s.cases k).since))]))))) ++ ((ln ([⟨#[111, 119, 101, 100]⟩, (sh ((ix s.cases k).owed))]))))) ++ ((ln ([⟨#[112, 97, 105, 100]⟩, (sh ((ix s.cases k).paid))]))))) ++ ((ln ([⟨#[100, 117, 101]⟩, ⟨#[45]⟩]))))) ++ ((ln ([⟨#[97, 112, 112, 101, 97, 108]⟩, ⟨#[45]⟩])))))))) rfl (og rfl (op_bin rfl rfl rfl (fun ox oy ow => b_sadd _ _ _ ox oy ow (by have y1 := c1_ln hX; have y2 := c2_ln (ix s.cases k); have y3 := c3_ln (w := ⟨#[111, 119, 101, 100]⟩) (n := (ix s.cases k).owed) (by decide) hX.owed; have y4 := c3_ln (w := ⟨#[112, 97, 105, 100]⟩) (n := (ix s.cases k).paid) (by decide) hX.paid; have y5 := c5_ln (w := ⟨#[100, 117, 101]⟩) (b := dtS (du s.cfg.law s.cfg.hol (ix s.cases k)).1) (by decide) (Nat.le_trans (dtS_size _) (by decide)); have y6 := c5_ln (w := ⟨#[100, 117, 101]⟩) (b := ⟨#[45]⟩) (by decide) (by decide); have y7 := c5_ln (w := ⟨#[97, 112, 112, 101, 97, 108]⟩) (b := ⟨#[45]⟩) (by decide) (by decide); first | omega | (simp only [ByteArray.size_append]; omega))) rfl)) ?_
          refine rg_put (d := 4) (v := .d (.fl (.string ((((((((((((ln ([⟨#[99, 97, 115, 101]⟩, (es ((ix s.cases k).id)), (es ((ix s.cases k).plate)), (es ((ix s.cases k).key))]))) ++ ((ln ([⟨#[115, 116, 97, 103, 101]⟩, (wd stw ((ix s.cases k).stage)), (dtS ((ix s.cases k).since))]))))) ++ ((ln ([⟨#[111, 119, 101, 100]⟩, (sh ((ix s.cases k).owed))]))))) ++ ((ln ([⟨#[112, 97, 105, 100]⟩, (sh ((ix s.cases k).paid))]))))) ++ ((ln ([⟨#[100, 117, 101]⟩, ⟨#[45]⟩]))))) ++ ((ln ([⟨#[97, 112, 112, 101, 97, 108]⟩, ⟨#[45]⟩])))))))) rfl (og rfl (op_assign rfl rfl rfl)) ?_
          refine rg_put (d := 5) (v := .d (.fl (.int .i64 0))) rfl (og rfl (op_assign rfl rfl rfl)) ?_
          refine rg_done rfl ?_
          refine a_ret ?_
          show ∃ ds, ResL _ _ _ ds ∧ RV.of ds = _
          refine ⟨[.fl (.string ((((((((((((ln ([⟨#[99, 97, 115, 101]⟩, (es ((ix s.cases k).id)), (es ((ix s.cases k).plate)), (es ((ix s.cases k).key))]))) ++ ((ln ([⟨#[115, 116, 97, 103, 101]⟩, (wd stw ((ix s.cases k).stage)), (dtS ((ix s.cases k).since))]))))) ++ ((ln ([⟨#[111, 119, 101, 100]⟩, (sh ((ix s.cases k).owed))]))))) ++ ((ln ([⟨#[112, 97, 105, 100]⟩, (sh ((ix s.cases k).paid))]))))) ++ ((ln ([⟨#[100, 117, 101]⟩, ⟨#[45]⟩]))))) ++ ((ln ([⟨#[97, 112, 112, 101, 97, 108]⟩, ⟨#[45]⟩])))))), .fl (.int .i64 0)], (.cons (.tmp rfl (.d _)) (.cons (.tmp rfl (.d _)) .nil)), ?_⟩
          have hu : cix s.cases id = (k : Int) := idx_at (by omega) hq h5
          rw [ceS_at hu]
          show _ = RV.tu [.fl (.string (cS s (ix s.cases k))), .fl (.int .i64 0)]
          unfold cS
          rw [dueT_no h6, apT_dash h8]; rfl
        · skip
          refine a_skip ?_
          show A _ _ _ _ _ _ _
          refine a_rseq ?_
          refine rg_put (d := 96) (v := .d (.fl (.string ((((((((((ln ([⟨#[99, 97, 115, 101]⟩, (es ((ix s.cases k).id)), (es ((ix s.cases k).plate)), (es ((ix s.cases k).key))]))) ++ ((ln ([⟨#[115, 116, 97, 103, 101]⟩, (wd stw ((ix s.cases k).stage)), (dtS ((ix s.cases k).since))]))))) ++ ((ln ([⟨#[111, 119, 101, 100]⟩, (sh ((ix s.cases k).owed))]))))) ++ ((ln ([⟨#[112, 97, 105, 100]⟩, (sh ((ix s.cases k).paid))]))))) ++ ((ln ([⟨#[100, 117, 101]⟩, ⟨#[45]⟩])))))))) rfl (og rfl (op_move rfl rfl rfl)) ?_
          refine rg_put (d := 97) (v := .d (.fl (.string ((wd apw (((ix s.cases k).ap).state)))))) rfl (og rfl (op_move rfl rfl rfl)) ?_
          refine rg_put (d := 98) (v := .pt 102 9) rfl (og rfl (of_eff (s_field_pt rfl Tryd.underlying102 rfl ti100 rfl rfl rfl) rfl)) ?_
          refine rg_put (d := 99) (v := .pt 102 11) rfl (og rfl (of_eff (s_field_pt rfl Tryd.underlying100 rfl ti3 rfl rfl rfl) rfl)) ?_
          refine rg_put (d := 100) (v := .d (.fl (.int .i64 (((ix s.cases k).ap).day)))) rfl (og rfl (op_load_pt rfl Tryd.underlying3 rfl rfl rfl rfl rfl)) ?_
          refine rg_put (d := 101) (v := .d (.fl (.string ((dtS (((ix s.cases k).ap).day)))))) rfl (og rfl (op_call rfl Tryd.func37 nm37 rfl (.cons rfl (.d _) .nil) (date40 (((ix s.cases k).ap).day)) rfl)) ?_
          refine rg_put (d := 102) (v := .d (.sl 1 (List.map rS ([⟨#[97, 112, 112, 101, 97, 108]⟩, (wd apw (((ix s.cases k).ap).state)), (dtS (((ix s.cases k).ap).day))])))) rfl (og rfl (of_eff (op_slices rfl Tryd.underlying98 ti9 rfl rfl rfl (by kernel_rfl) (xs := [.fl (.string (⟨#[97, 112, 112, 101, 97, 108]⟩)), .fl (.string ((wd apw (((ix s.cases k).ap).state)))), .fl (.string ((dtS (((ix s.cases k).ap).day))))]) rfl rfl (.cons rfl rfl (.d _) rfl rfl rfl (.cons rfl rfl (.d _) rfl rfl rfl (.cons rfl rfl (.d _) rfl rfl rfl .nil))) rfl) rfl)) ?_
          refine rg_put (d := 103) (v := .d (.fl (.string ((ln ([⟨#[97, 112, 112, 101, 97, 108]⟩, (wd apw (((ix s.cases k).ap).state)), (dtS (((ix s.cases k).ap).day))])))))) rfl (og rfl (op_call rfl Tryd.func28 nm28 rfl (.cons rfl (.d _) .nil) (ln31 ([⟨#[97, 112, 112, 101, 97, 108]⟩, (wd apw (((ix s.cases k).ap).state)), (dtS (((ix s.cases k).ap).day))]) (by rw [← jn_jn, ← apT_in h8]; exact Nat.le_trans (c5_jn (by decide) (apT_size _)) (by decide))) rfl)) ?_
          refine rg_put (d := 104) (v := .d (.fl (.string ((((((((((((ln ([⟨#[99, 97, 115, 101]⟩, (es ((ix s.cases k).id)), (es ((ix s.cases k).plate)), (es ((ix s.cases k).key))]))) ++ ((ln ([⟨#[115, 116, 97, 103, 101]⟩, (wd stw ((ix s.cases k).stage)), (dtS ((ix s.cases k).since))]))))) ++ ((ln ([⟨#[111, 119, 101, 100]⟩, (sh ((ix s.cases k).owed))]))))) ++ ((ln ([⟨#[112, 97, 105, 100]⟩, (sh ((ix s.cases k).paid))]))))) ++ ((ln ([⟨#[100, 117, 101]⟩, ⟨#[45]⟩]))))) ++ ((ln ([⟨#[97, 112, 112, 101, 97, 108]⟩, (wd apw (((ix s.cases k).ap).state)), (dtS (((ix s.cases k).ap).day))])))))))) rfl (og rfl (op_bin rfl rfl rfl (fun ox oy ow => b_sadd _ _ _ ox oy ow (by have y1 := c1_ln hX; have y2 := c2_ln (ix s.cases k); have y3 := c3_ln (w := ⟨#[111, 119, 101, 100]⟩) (n := (ix s.cases k).owed) (by decide) hX.owed; have y4 := c3_ln (w := ⟨#[112, 97, 105, 100]⟩) (n := (ix s.cases k).paid) (by decide) hX.paid; have y5 := c5_ln (w := ⟨#[100, 117, 101]⟩) (b := dtS (du s.cfg.law s.cfg.hol (ix s.cases k)).1) (by decide) (Nat.le_trans (dtS_size _) (by decide)); have y6 := c5_ln (w := ⟨#[100, 117, 101]⟩) (b := ⟨#[45]⟩) (by decide) (by decide); have y7 := c5_ln (w := ⟨#[97, 112, 112, 101, 97, 108]⟩) (b := ⟨#[45]⟩) (by decide) (by decide); have y8 := c5_ln (w := ⟨#[97, 112, 112, 101, 97, 108]⟩) (b := apT (ix s.cases k).ap) (by decide) (apT_size _); rw [apT_in h8, jn_ln] at y8; first | omega | (simp only [ByteArray.size_append]; omega))) rfl)) ?_
          refine rg_put (d := 4) (v := .d (.fl (.string ((((((((((((ln ([⟨#[99, 97, 115, 101]⟩, (es ((ix s.cases k).id)), (es ((ix s.cases k).plate)), (es ((ix s.cases k).key))]))) ++ ((ln ([⟨#[115, 116, 97, 103, 101]⟩, (wd stw ((ix s.cases k).stage)), (dtS ((ix s.cases k).since))]))))) ++ ((ln ([⟨#[111, 119, 101, 100]⟩, (sh ((ix s.cases k).owed))]))))) ++ ((ln ([⟨#[112, 97, 105, 100]⟩, (sh ((ix s.cases k).paid))]))))) ++ ((ln ([⟨#[100, 117, 101]⟩, ⟨#[45]⟩]))))) ++ ((ln ([⟨#[97, 112, 112, 101, 97, 108]⟩, (wd apw (((ix s.cases k).ap).state)), (dtS (((ix s.cases k).ap).day))])))))))) rfl (og rfl (op_assign rfl rfl rfl)) ?_
          refine rg_put (d := 5) (v := .d (.fl (.int .i64 0))) rfl (og rfl (op_assign rfl rfl rfl)) ?_
          refine rg_done rfl ?_
          refine a_ret ?_
          show ∃ ds, ResL _ _ _ ds ∧ RV.of ds = _
          refine ⟨[.fl (.string ((((((((((((ln ([⟨#[99, 97, 115, 101]⟩, (es ((ix s.cases k).id)), (es ((ix s.cases k).plate)), (es ((ix s.cases k).key))]))) ++ ((ln ([⟨#[115, 116, 97, 103, 101]⟩, (wd stw ((ix s.cases k).stage)), (dtS ((ix s.cases k).since))]))))) ++ ((ln ([⟨#[111, 119, 101, 100]⟩, (sh ((ix s.cases k).owed))]))))) ++ ((ln ([⟨#[112, 97, 105, 100]⟩, (sh ((ix s.cases k).paid))]))))) ++ ((ln ([⟨#[100, 117, 101]⟩, ⟨#[45]⟩]))))) ++ ((ln ([⟨#[97, 112, 112, 101, 97, 108]⟩, (wd apw (((ix s.cases k).ap).state)), (dtS (((ix s.cases k).ap).day))])))))), .fl (.int .i64 0)], (.cons (.tmp rfl (.d _)) (.cons (.tmp rfl (.d _)) .nil)), ?_⟩
          have hu : cix s.cases id = (k : Int) := idx_at (by omega) hq h5
          rw [ceS_at hu]
          show _ = RV.tu [.fl (.string (cS s (ix s.cases k))), .fl (.int .i64 0)]
          unfold cS
          rw [dueT_no h6, apT_in h8, jn_ln]; rfl
  · skip
    have h9 := f_dec h1
    refine a_exit ?_
    show A _ _ _ _ _ _ _
    refine a_rseq ?_
    refine rg_put (d := 4) (v := .d (.fl (.string (⟨#[]⟩)))) rfl (og rfl (op_assign rfl rfl rfl)) ?_
    refine rg_put (d := 5) (v := .d (.fl (.int .i64 28))) rfl (og rfl (op_assign rfl rfl rfl)) ?_
    refine rg_done rfl ?_
    refine a_ret ?_
    show ∃ ds, ResL _ _ _ ds ∧ RV.of ds = _
    refine ⟨[.fl (.string (⟨#[]⟩)), .fl (.int .i64 28)], (.cons (.tmp rfl (.d _)) (.cons (.tmp rfl (.d _)) .nil)), ?_⟩
    have hu : cix s.cases id = -1 := idx_no (fun q h => hq q (by omega))
    rw [ceS_no (by rw [hu]; rfl)]; rfl
end Go.Proofs.YtglhonnmppclpaaDoor.Wk
