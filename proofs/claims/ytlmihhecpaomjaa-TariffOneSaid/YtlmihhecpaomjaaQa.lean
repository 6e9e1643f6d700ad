/- The tariff of a time, and equal tariffs (layer 22, carried). Conditions: as each theorem names them. -/
import Derived.Test.YtlmihhecpaomjaaB5
set_option linter.unusedSimpArgs false
set_option linter.unusedVariables false
namespace Go.Proofs.Ytlmihhecpaomjaa.Wq
open Go Go.RowKit Go.Proofs.Ytlmihhecpaomjaa.Av Go.Proofs.Ytlmihhecpaomjaa.Wk
theorem eqI23 (a : Iv) (w : World) : (Op.equalIn 10000 23 (.agg (([.int .i64 a.fr, .int .i64 a.to] : List Value).toArray)) (.agg (([.int .i64 a.fr, .int .i64 a.to] : List Value).toArray))).run Try.prog w = .ok true w := by
  have hS : Try.prog.underlying 23 = some (.struct (Try.prog.fieldsOf 23)) := by kernel_rfl
  have hp : Try.prog.stoodInHeld 23 = false := by kernel_rfl
  rw [show (10000 : Nat) = 9999 + 1 from rfl, run_equalIn_agg w 9999 23 _ _ hS hp]
  simp only [Program.fieldsOf, Try.underlying23]
  go_simp

theorem neq23 (a : Iv) (x y : Operand) (w : World) : (do eqGuard .neq 23 x y (.agg (([.int .i64 a.fr, .int .i64 a.to] : List Value).toArray)) (.agg (([.int .i64 a.fr, .int .i64 a.to] : List Value).toArray)); binOp .neq 23 (.agg (([.int .i64 a.fr, .int .i64 a.to] : List Value).toArray)) (.agg (([.int .i64 a.fr, .int .i64 a.to] : List Value).toArray)) : Sem Value).run Try.prog w = .ok (.bool false) w := by
  have hm : Try.prog.eqGuardType Try.prog.depth 23 = false := by kernel_rfl
  rw [Sem.run_bind, run_eqGuard_agg w .neq 23 x y _ _ hm, Result.andThen_ok, run_neq_struct, eqI23]
  rfl

theorem eqI59 (a : Bd) (w : World) : (Op.equalIn 10000 59 (.agg (([.string a.name, .int .i64 a.win.days, .int .i64 a.win.fr, .int .i64 a.win.to] : List Value).toArray)) (.agg (([.string a.name, .int .i64 a.win.days, .int .i64 a.win.fr, .int .i64 a.win.to] : List Value).toArray))).run Try.prog w = .ok true w := by
  have hS : Try.prog.underlying 59 = some (.struct (Try.prog.fieldsOf 59)) := by kernel_rfl
  have hp : Try.prog.stoodInHeld 59 = false := by kernel_rfl
  rw [show (10000 : Nat) = 9999 + 1 from rfl, run_equalIn_agg w 9999 59 _ _ hS hp]
  simp only [Program.fieldsOf, Try.underlying59, Try.underlying57]
  go_simp

theorem neq59 (a : Bd) (x y : Operand) (w : World) : (do eqGuard .neq 59 x y (.agg (([.string a.name, .int .i64 a.win.days, .int .i64 a.win.fr, .int .i64 a.win.to] : List Value).toArray)) (.agg (([.string a.name, .int .i64 a.win.days, .int .i64 a.win.fr, .int .i64 a.win.to] : List Value).toArray)); binOp .neq 59 (.agg (([.string a.name, .int .i64 a.win.days, .int .i64 a.win.fr, .int .i64 a.win.to] : List Value).toArray)) (.agg (([.string a.name, .int .i64 a.win.days, .int .i64 a.win.fr, .int .i64 a.win.to] : List Value).toArray)) : Sem Value).run Try.prog w = .ok (.bool false) w := by
  have hm : Try.prog.eqGuardType Try.prog.depth 59 = false := by kernel_rfl
  rw [Sem.run_bind, run_eqGuard_agg w .neq 59 x y _ _ hm, Result.andThen_ok, run_neq_struct, eqI59]
  rfl

theorem eqI68 (a : Rt) (w : World) : (Op.equalIn 10000 68 (.agg (([.string a.fr, .string a.to, .int .i64 a.cls, .string a.band, .int .i64 a.cents] : List Value).toArray)) (.agg (([.string a.fr, .string a.to, .int .i64 a.cls, .string a.band, .int .i64 a.cents] : List Value).toArray))).run Try.prog w = .ok true w := by
  have hS : Try.prog.underlying 68 = some (.struct (Try.prog.fieldsOf 68)) := by kernel_rfl
  have hp : Try.prog.stoodInHeld 68 = false := by kernel_rfl
  rw [show (10000 : Nat) = 9999 + 1 from rfl, run_equalIn_agg w 9999 68 _ _ hS hp]
  simp only [Program.fieldsOf, Try.underlying68]
  go_simp

theorem neq68 (a : Rt) (x y : Operand) (w : World) : (do eqGuard .neq 68 x y (.agg (([.string a.fr, .string a.to, .int .i64 a.cls, .string a.band, .int .i64 a.cents] : List Value).toArray)) (.agg (([.string a.fr, .string a.to, .int .i64 a.cls, .string a.band, .int .i64 a.cents] : List Value).toArray)); binOp .neq 68 (.agg (([.string a.fr, .string a.to, .int .i64 a.cls, .string a.band, .int .i64 a.cents] : List Value).toArray)) (.agg (([.string a.fr, .string a.to, .int .i64 a.cls, .string a.band, .int .i64 a.cents] : List Value).toArray)) : Sem Value).run Try.prog w = .ok (.bool false) w := by
  have hm : Try.prog.eqGuardType Try.prog.depth 68 = false := by kernel_rfl
  rw [Sem.run_bind, run_eqGuard_agg w .neq 68 x y _ _ hm, Result.andThen_ok, run_neq_struct, eqI68]
  rfl





theorem ne_self_b (a : Int) : (a != a) = false := by simp





theorem ix_eq {α : Type} [Inhabited α] {l : List α} {i : Nat} (h : i < l.length) : l[i] = ix l i := by
  have := ix_get h
  rw [List.getElem?_eq_getElem h] at this
  injection this
theorem ix_mem {α : Type} [Inhabited α] {l : List α} {k : Nat} (h : k < l.length) : ix l k ∈ l := by rw [← ix_eq h]; exact List.getElem_mem h
theorem mem_ix {α : Type} [Inhabited α] {l : List α} {x : α} (h : x ∈ l) : ∃ k, k < l.length ∧ ix l k = x := by
  obtain ⟨j, hj, he⟩ := List.mem_iff_getElem.1 h
  exact ⟨j, hj, by rw [← ix_eq hj]; exact he⟩
theorem fnd_no {α : Type} [Inhabited α] {p : α → Bool} {l : List α} (h : ∀ q, q < l.length → p (ix l q) = false) : l.find? p = none := by
  rw [List.find?_eq_none]
  intro x hx
  obtain ⟨k, hk, he⟩ := mem_ix hx
  rw [← he, h k hk]; simp
theorem fnd_at {α : Type} [Inhabited α] {p : α → Bool} {l : List α} {k : Nat} (hk : k < l.length) (h : ∀ q, q < k → p (ix l q) = false) (hp : p (ix l k) = true) : l.find? p = some (ix l k) := by
  rw [List.find?_eq_some_iff_getElem]
  refine ⟨hp, k, hk, ix_eq hk, fun j hj => ?_⟩
  rw [ix_eq (by omega), h j hj]; rfl
theorem any_at {α : Type} [Inhabited α] {p : α → Bool} {l : List α} {k : Nat} (hk : k < l.length) (hp : p (ix l k) = true) : l.any p = true := by
  rw [List.any_eq_true]; exact ⟨_, ix_mem hk, hp⟩
theorem any_no {α : Type} [Inhabited α] {p : α → Bool} {l : List α} (h : ∀ q, q < l.length → p (ix l q) = false) : l.any p = false := by
  rw [List.any_eq_false]
  intro x hx
  obtain ⟨k, hk, he⟩ := mem_ix hx
  rw [← he, h k hk]; simp
def vI (i : Iv) : Bool := (decide (0 ≤ i.fr) && decide (i.fr < i.to)) && decide (i.to ≤ 68719476736)
def hasI (i : Iv) (t : Int) : Bool := (vI i && decide (i.fr ≤ t)) && decide (t < i.to)
def hasL (l : List Iv) (t : Int) : Bool := l.any fun i => hasI i t
theorem hasL_one (i : Iv) (t : Int) : hasL [i] t = hasI i t := by simp [hasL]
def zTa : Ta := ⟨⟨0, 0⟩, [], []⟩
def att (l : List Ta) (t : Int) : Ta × Int := match l.find? (fun x => hasI x.val t) with
  | some x => (x, 0)
  | none => (zTa, 22)
theorem att_at {l : List Ta} {t : Int} {k : Nat} (hk : k < l.length) (h : ∀ q, q < k → hasI (ix l q).val t = false) (hp : hasI (ix l k).val t = true) : att l t = (ix l k, 0) := by unfold att; rw [fnd_at hk h hp]
theorem att_no {l : List Ta} {t : Int} (h : ∀ q, q < l.length → hasI (ix l q).val t = false) : att l t = (zTa, 22) := by unfold att; rw [fnd_no h]
def oTa (x : Ta) : List OC := [.dv (.fl (.int .i64 x.val.fr)), .dv (.fl (.int .i64 x.val.to)), .ow 59 4 (List.map eBd x.bands), .ow 68 5 (List.map eRt x.rates)]
set_option maxHeartbeats 4000000 in
set_option maxRecDepth 100000 in
theorem vI24 (i : Iv) : Ctr Try.prog 29 [.ag (eIv i)] (.d (.fl (.bool (vI i)))) := by
  refine ctr (n := 18) (rs := #[.tmp 2]) (L := [(0, .d (.ag (eIv i)))]) Try.func29 rfl rfl rfl rfl rfl (fun w0 U0 => ?_)
  refine a_rseq ?_
  refine rg_nam (d := 1) (v := .pt 101 0) (m := 101) (nw := [(101, .bx 23 (eIv i))]) rfl (og rfl (of_eff (op_box 101 rfl rfl rfl rfl) rfl)) rfl ?_
  refine rg_put (d := 2) (v := .d (.fl (.bool false))) rfl (og rfl (op_assign rfl rfl rfl)) ?_
  refine rg_done rfl ?_
  refine a_rseq ?_
  refine rg_put (d := 3) (v := .pt 101 0) rfl (og rfl (of_eff (s_field_pt rfl Try.underlying23 rfl ti3 rfl rfl rfl) rfl)) ?_
  refine rg_put (d := 4) (v := .d (.fl (.int .i64 i.fr))) rfl (og rfl (op_load_pt rfl Try.underlying3 rfl rfl rfl rfl rfl)) ?_
  refine rg_put (d := 5) (v := .d (.fl (.bool ((decide (0 ≤ i.fr)))))) rfl (og rfl (op_bin rfl rfl rfl (b_leq _ _ _ _) rfl)) ?_
  refine rg_put (d := 6) (v := .d (.fl (.bool ((decide (0 ≤ i.fr)))))) rfl (og rfl (op_move rfl rfl rfl)) ?_
  rcases fot ((decide (0 ≤ i.fr))) with h1 | h1
  · skip
    have h2 := f_dec h1
    refine rg_put (d := 7) (v := .d (.fl undef)) rfl (on rfl rfl rfl h1) ?_
    refine rg_put (d := 8) (v := .d (.fl undef)) rfl (on rfl rfl rfl h1) ?_
    refine rg_put (d := 9) (v := .d (.fl undef)) rfl (on rfl rfl rfl h1) ?_
    refine rg_put (d := 10) (v := .d (.fl undef)) rfl (on rfl rfl rfl h1) ?_
    refine rg_put (d := 11) (v := .d (.fl undef)) rfl (on rfl rfl rfl h1) ?_
    refine rg_put (d := 12) (v := .d (.fl (.bool false))) rfl (og rfl (op_pick rfl rfl (by rw [h1]; rfl) rfl)) ?_
    refine rg_put (d := 13) (v := .d (.fl (.bool false))) rfl (og rfl (op_move rfl rfl rfl)) ?_
    refine rg_put (d := 14) (v := .d (.fl undef)) rfl (on rfl rfl rfl rfl) ?_
    refine rg_put (d := 15) (v := .d (.fl undef)) rfl (on rfl rfl rfl rfl) ?_
    refine rg_put (d := 16) (v := .d (.fl undef)) rfl (on rfl rfl rfl rfl) ?_
    refine rg_put (d := 17) (v := .d (.fl (.bool false))) rfl (og rfl (op_pick rfl rfl rfl rfl)) ?_
    refine rg_put (d := 2) (v := .d (.fl (.bool false))) rfl (og rfl (op_assign rfl rfl rfl)) ?_
    refine rg_done rfl ?_
    refine a_ret ?_
    show ∃ ds, ResL _ _ _ ds ∧ RV.of ds = _
    refine ⟨[.fl (.bool false)], (.cons (.tmp rfl (.d _)) .nil), ?_⟩
    have hu : vI i = false := by
      unfold vI; simp only [h1, Bool.true_and, Bool.false_and, Bool.and_true, Bool.and_false] <;> rfl
    rw [hu]; rfl
  · skip
    have h3 := t_dec h1
    refine rg_put (d := 7) (v := .pt 101 0) rfl (oy rfl rfl rfl h1 (of_eff (s_field_pt rfl Try.underlying23 rfl ti3 rfl rfl rfl) rfl)) ?_
    refine rg_put (d := 8) (v := .d (.fl (.int .i64 i.fr))) rfl (oy rfl rfl rfl h1 (op_load_pt rfl Try.underlying3 rfl rfl rfl rfl rfl)) ?_
    refine rg_put (d := 9) (v := .pt 101 1) rfl (oy rfl rfl rfl h1 (of_eff (s_field_pt rfl Try.underlying23 rfl ti3 rfl rfl rfl) rfl)) ?_
    refine rg_put (d := 10) (v := .d (.fl (.int .i64 i.to))) rfl (oy rfl rfl rfl h1 (op_load_pt rfl Try.underlying3 rfl rfl rfl rfl rfl)) ?_
    refine rg_put (d := 11) (v := .d (.fl (.bool ((decide (i.fr < i.to)))))) rfl (oy rfl rfl rfl h1 (op_bin rfl rfl rfl (b_lss _ _ _ _) rfl)) ?_
    refine rg_put (d := 12) (v := .d (.fl (.bool ((decide (i.fr < i.to)))))) rfl (og rfl (op_pick rfl rfl (by rw [h1]; rfl) rfl)) ?_
    refine rg_put (d := 13) (v := .d (.fl (.bool ((decide (i.fr < i.to)))))) rfl (og rfl (op_move rfl rfl rfl)) ?_
    rcases fot ((decide (i.fr < i.to))) with h4 | h4
    · skip
      have h5 := f_dec h4
      refine rg_put (d := 14) (v := .d (.fl undef)) rfl (on rfl rfl rfl h4) ?_
      refine rg_put (d := 15) (v := .d (.fl undef)) rfl (on rfl rfl rfl h4) ?_
      refine rg_put (d := 16) (v := .d (.fl undef)) rfl (on rfl rfl rfl h4) ?_
      refine rg_put (d := 17) (v := .d (.fl (.bool false))) rfl (og rfl (op_pick rfl rfl (by rw [h4]; rfl) rfl)) ?_
      refine rg_put (d := 2) (v := .d (.fl (.bool false))) rfl (og rfl (op_assign rfl rfl rfl)) ?_
      refine rg_done rfl ?_
      refine a_ret ?_
      show ∃ ds, ResL _ _ _ ds ∧ RV.of ds = _
      refine ⟨[.fl (.bool false)], (.cons (.tmp rfl (.d _)) .nil), ?_⟩
      have hu : vI i = false := by
        unfold vI; simp only [h1, h4, Bool.true_and, Bool.false_and, Bool.and_true, Bool.and_false] <;> rfl
      rw [hu]; rfl
    · skip
      have h6 := t_dec h4
      refine rg_put (d := 14) (v := .pt 101 1) rfl (oy rfl rfl rfl h4 (of_eff (s_field_pt rfl Try.underlying23 rfl ti3 rfl rfl rfl) rfl)) ?_
      refine rg_put (d := 15) (v := .d (.fl (.int .i64 i.to))) rfl (oy rfl rfl rfl h4 (op_load_pt rfl Try.underlying3 rfl rfl rfl rfl rfl)) ?_
      refine rg_put (d := 16) (v := .d (.fl (.bool ((decide (i.to ≤ 68719476736)))))) rfl (oy rfl rfl rfl h4 (op_bin rfl rfl rfl (b_leq _ _ _ _) rfl)) ?_
      refine rg_put (d := 17) (v := .d (.fl (.bool ((decide (i.to ≤ 68719476736)))))) rfl (og rfl (op_pick rfl rfl (by rw [h4]; rfl) rfl)) ?_
      refine rg_put (d := 2) (v := .d (.fl (.bool ((decide (i.to ≤ 68719476736)))))) rfl (og rfl (op_assign rfl rfl rfl)) ?_
      refine rg_done rfl ?_
      refine a_ret ?_
      show ∃ ds, ResL _ _ _ ds ∧ RV.of ds = _
      refine ⟨[.fl (.bool ((decide (i.to ≤ 68719476736))))], (.cons (.tmp rfl (.d _)) .nil), ?_⟩
      have hu : vI i = (decide (i.to ≤ 68719476736)) := by
        unfold vI; simp only [h1, h4, Bool.true_and, Bool.false_and, Bool.and_true, Bool.and_false] <;> rfl
      rw [hu]; rfl
set_option maxHeartbeats 4000000 in
set_option maxRecDepth 100000 in
theorem hasL15 (l : List Iv) (t : Int) (hl : l.length ≤ 1000) : Ctr Try.prog 26 [.sl 2 (List.map eIv l), .fl (.int .i64 t)] (.d (.fl (.bool (hasL l t)))) := by
  refine ctr (n := 28) (rs := #[.tmp 4]) (L := [(0, .d (.sl 2 (List.map eIv l))), (1, .d (.fl (.int .i64 t)))]) Try.func26 rfl rfl rfl rfl rfl (fun w0 U0 => ?_)
  refine a_rseq ?_
  refine rg_put (d := 4) (v := .d (.fl (.bool false))) rfl (og rfl (op_assign rfl rfl rfl)) ?_
  refine rg_done rfl ?_
  refine a_seq ?_
  refine a_rseq ?_
  refine rg_put (d := 7) (v := .d (.sl 2 (List.map eIv l))) rfl (og rfl (op_move rfl rfl rfl)) ?_
  refine rg_put (d := 8) (v := .d (.fl (.int .i64 (l.length : Int)))) rfl (og rfl (s_len rfl Try.underlying70 rfl rfl)) ?_
  refine rg_put (d := 9) (v := .d (.fl (.int .i64 0))) rfl (og rfl (op_move rfl rfl rfl)) ?_
  refine rg_done rfl ?_
  refine a_block ?_
  refine a_loop (ι := Nat) (fun k => SS [(0, .d (.sl 2 (List.map eIv l))), (1, .d (.fl (.int .i64 t))), (7, .d (.sl 2 (List.map eIv l))), (8, .d (.fl (.int .i64 (l.length : Int)))), (9, .d (.fl (.int .i64 (k : Int))))] []) (fun k => k ≤ l.length ∧ ∀ q, q < k → hasI (ix l q) t = false) (fun k => l.length - k) 0 (⟨by omega, fun q h => by omega⟩) (imp_forget rfl ⟨rfl, rfl, rfl, rfl, (by first | rfl | exact ci (by omega) | exact ci (by simp) | exact cd (by simp) | simp), trivial⟩ trivial) (fun k hok => ?_)
  obtain ⟨hk, hq⟩ := hok
  refine a_rseq ?_
  refine rg_put (d := 10) (v := .d (.fl (.bool ((decide ((k : Int) < (l.length : Int))))))) rfl (og rfl (op_bin rfl rfl rfl (b_lss _ _ _ _) rfl)) ?_
  refine rg_done rfl ?_
  refine a_seq ?_
  refine a_cond rfl (fun h1 => ?_) (fun h1 => ?_)
  · skip
    have h2 := t_dec h1
    refine a_skip ?_
    show A _ _ _ _ _ _ _
    refine a_seq ?_
    refine a_block ?_
    refine a_rseq ?_
    refine rg_put (d := 11) (v := .el ((eIv (ix l k)))) rfl (og rfl (s_index rfl Try.underlying70 ti23 rfl rfl (by omega) (row_at (by omega)) rfl)) ?_
    refine rg_put (d := 12) (v := .d (.ag (eIv (ix l k)))) rfl (og rfl (of_eff (s_load_els rfl Try.underlying23 rfl ti23 rfl rfl rfl) rfl)) ?_
    refine rg_nam (d := 6) (v := .pt 101 0) (m := 101) (nw := [(101, .bx 23 [.fl (.int .i64 0), .fl (.int .i64 0)])]) rfl (og rfl (of_eff (s_alloc 101 rfl ti23 (by kernel_rfl) rfl) rfl)) rfl ?_
    refine rg_sto (nw := [(101, .bx 23 ((eIv (ix l k))))]) rfl (og rfl (of_eff (s_store rfl rfl ti23 rfl rfl rfl rfl rfl rfl) rfl)) ?_
    refine rg_done rfl ?_
    refine a_rseq ?_
    refine rg_put (d := 13) (v := .d (.ag (eIv (ix l k)))) rfl (og rfl (of_eff (s_load_pts rfl Try.underlying23 rfl ti23 rfl rfl rfl rfl) rfl)) ?_
    refine rg_put (d := 14) (v := .d (.fl (.bool ((vI (ix l k)))))) rfl (og rfl (op_call rfl Try.func29 nm29 rfl (.cons rfl (.d _) .nil) (vI24 (ix l k)) rfl)) ?_
    refine rg_put (d := 15) (v := .d (.fl (.bool ((vI (ix l k)))))) rfl (og rfl (op_move rfl rfl rfl)) ?_
    rcases fot ((vI (ix l k))) with h3 | h3
    · skip
      refine rg_put (d := 16) (v := .d (.fl undef)) rfl (on rfl rfl rfl h3) ?_
      refine rg_put (d := 17) (v := .d (.fl undef)) rfl (on rfl rfl rfl h3) ?_
      refine rg_put (d := 18) (v := .d (.fl undef)) rfl (on rfl rfl rfl h3) ?_
      refine rg_put (d := 19) (v := .d (.fl undef)) rfl (on rfl rfl rfl h3) ?_
      refine rg_put (d := 20) (v := .d (.fl (.bool false))) rfl (og rfl (op_pick rfl rfl (by rw [h3]; rfl) rfl)) ?_
      refine rg_put (d := 21) (v := .d (.fl (.bool false))) rfl (og rfl (op_move rfl rfl rfl)) ?_
      refine rg_put (d := 22) (v := .d (.fl undef)) rfl (on rfl rfl rfl rfl) ?_
      refine rg_put (d := 23) (v := .d (.fl undef)) rfl (on rfl rfl rfl rfl) ?_
      refine rg_put (d := 24) (v := .d (.fl undef)) rfl (on rfl rfl rfl rfl) ?_
      refine rg_put (d := 25) (v := .d (.fl undef)) rfl (on rfl rfl rfl rfl) ?_
      refine rg_put (d := 26) (v := .d (.fl (.bool false))) rfl (og rfl (op_pick rfl rfl rfl rfl)) ?_
      refine rg_done rfl ?_
      refine a_condF rfl rfl ?_
      refine a_skip ?_
      show A _ _ _ _ _ _ _
      refine a_region ?_
      refine rg_put (d := 27) (v := .d (.fl (.int .i64 (((k : Int) + 1))))) rfl (og rfl (op_bin rfl rfl rfl (fun x y w => b_add64 _ _ _ x y w (by omega)) rfl)) ?_
      refine rg_put (d := 9) (v := .d (.fl (.int .i64 (((k : Int) + 1))))) rfl (og rfl (op_move rfl rfl rfl)) ?_
      refine rg_done rfl ?_
      have hx : hasI (ix l k) t = false := by unfold hasI; simp only [h1, h3, Bool.true_and, Bool.false_and, Bool.and_true, Bool.and_false] <;> rfl
      show ∃ i, _ ∧ _ ∧ Imp _ _ _ _ _
      refine ⟨k + 1, ⟨by omega, fun q h => (Nat.lt_succ_iff_lt_or_eq.1 h).elim (hq q) (fun e => by rw [e]; exact hx)⟩, by omega, imp_forget rfl ⟨rfl, rfl, rfl, rfl, (by first | rfl | exact ci (by omega) | exact ci (by simp) | exact cd (by simp) | simp), trivial⟩ trivial⟩
    · skip
      refine rg_put (d := 16) (v := .pt 101 0) rfl (oy rfl rfl rfl h3 (of_eff (s_field_pt rfl Try.underlying23 rfl ti3 rfl rfl rfl) rfl)) ?_
      refine rg_put (d := 17) (v := .d (.fl (.int .i64 ((ix l k).fr)))) rfl (oy rfl rfl rfl h3 (op_load_pt rfl Try.underlying3 rfl rfl rfl rfl rfl)) ?_
      refine rg_put (d := 18) (v := .d (.fl (.int .i64 t))) rfl (oy rfl rfl rfl h3 (op_move rfl rfl rfl)) ?_
      refine rg_put (d := 19) (v := .d (.fl (.bool ((decide ((ix l k).fr ≤ t)))))) rfl (oy rfl rfl rfl h3 (op_bin rfl rfl rfl (b_leq _ _ _ _) rfl)) ?_
      refine rg_put (d := 20) (v := .d (.fl (.bool ((decide ((ix l k).fr ≤ t)))))) rfl (og rfl (op_pick rfl rfl (by rw [h3]; rfl) rfl)) ?_
      refine rg_put (d := 21) (v := .d (.fl (.bool ((decide ((ix l k).fr ≤ t)))))) rfl (og rfl (op_move rfl rfl rfl)) ?_
      rcases fot ((decide ((ix l k).fr ≤ t))) with h4 | h4
      · skip
        have h5 := f_dec h4
        refine rg_put (d := 22) (v := .d (.fl undef)) rfl (on rfl rfl rfl h4) ?_
        refine rg_put (d := 23) (v := .d (.fl undef)) rfl (on rfl rfl rfl h4) ?_
        refine rg_put (d := 24) (v := .d (.fl undef)) rfl (on rfl rfl rfl h4) ?_
        refine rg_put (d := 25) (v := .d (.fl undef)) rfl (on rfl rfl rfl h4) ?_
        refine rg_put (d := 26) (v := .d (.fl (.bool false))) rfl (og rfl (op_pick rfl rfl (by rw [h4]; rfl) rfl)) ?_
        refine rg_done rfl ?_
        refine a_condF rfl rfl ?_
        refine a_skip ?_
        show A _ _ _ _ _ _ _
        refine a_region ?_
        refine rg_put (d := 27) (v := .d (.fl (.int .i64 (((k : Int) + 1))))) rfl (og rfl (op_bin rfl rfl rfl (fun x y w => b_add64 _ _ _ x y w (by omega)) rfl)) ?_
        refine rg_put (d := 9) (v := .d (.fl (.int .i64 (((k : Int) + 1))))) rfl (og rfl (op_move rfl rfl rfl)) ?_
        refine rg_done rfl ?_
        have hx : hasI (ix l k) t = false := by unfold hasI; simp only [h1, h3, h4, Bool.true_and, Bool.false_and, Bool.and_true, Bool.and_false] <;> rfl
        show ∃ i, _ ∧ _ ∧ Imp _ _ _ _ _
        refine ⟨k + 1, ⟨by omega, fun q h => (Nat.lt_succ_iff_lt_or_eq.1 h).elim (hq q) (fun e => by rw [e]; exact hx)⟩, by omega, imp_forget rfl ⟨rfl, rfl, rfl, rfl, (by first | rfl | exact ci (by omega) | exact ci (by simp) | exact cd (by simp) | simp), trivial⟩ trivial⟩
      · skip
        have h6 := t_dec h4
        refine rg_put (d := 22) (v := .d (.fl (.int .i64 t))) rfl (oy rfl rfl rfl h4 (op_move rfl rfl rfl)) ?_
        refine rg_put (d := 23) (v := .pt 101 1) rfl (oy rfl rfl rfl h4 (of_eff (s_field_pt rfl Try.underlying23 rfl ti3 rfl rfl rfl) rfl)) ?_
        refine rg_put (d := 24) (v := .d (.fl (.int .i64 ((ix l k).to)))) rfl (oy rfl rfl rfl h4 (op_load_pt rfl Try.underlying3 rfl rfl rfl rfl rfl)) ?_
        refine rg_put (d := 25) (v := .d (.fl (.bool ((decide (t < (ix l k).to)))))) rfl (oy rfl rfl rfl h4 (op_bin rfl rfl rfl (b_lss _ _ _ _) rfl)) ?_
        refine rg_put (d := 26) (v := .d (.fl (.bool ((decide (t < (ix l k).to)))))) rfl (og rfl (op_pick rfl rfl (by rw [h4]; rfl) rfl)) ?_
        refine rg_done rfl ?_
        refine a_cond rfl (fun h7 => ?_) (fun h7 => ?_)
        · skip
          have h8 := t_dec h7
          refine a_rseq ?_
          refine rg_put (d := 4) (v := .d (.fl (.bool true))) rfl (og rfl (op_assign rfl rfl rfl)) ?_
          refine rg_done rfl ?_
          refine a_ret ?_
          show ∃ ds, ResL _ _ _ ds ∧ RV.of ds = _
          refine ⟨[.fl (.bool true)], (.cons (.tmp rfl (.d _)) .nil), ?_⟩
          have hx : hasI (ix l k) t = true := by unfold hasI; simp only [h1, h3, h4, h7, Bool.true_and, Bool.false_and, Bool.and_true, Bool.and_false] <;> rfl
          have hu : hasL l t = true := any_at (by omega) hx
          rw [hu]; rfl
        · skip
          have h9 := f_dec h7
          refine a_skip ?_
          show A _ _ _ _ _ _ _
          refine a_region ?_
          refine rg_put (d := 27) (v := .d (.fl (.int .i64 (((k : Int) + 1))))) rfl (og rfl (op_bin rfl rfl rfl (fun x y w => b_add64 _ _ _ x y w (by omega)) rfl)) ?_
          refine rg_put (d := 9) (v := .d (.fl (.int .i64 (((k : Int) + 1))))) rfl (og rfl (op_move rfl rfl rfl)) ?_
          refine rg_done rfl ?_
          have hx : hasI (ix l k) t = false := by unfold hasI; simp only [h1, h3, h4, h7, Bool.true_and, Bool.false_and, Bool.and_true, Bool.and_false] <;> rfl
          show ∃ i, _ ∧ _ ∧ Imp _ _ _ _ _
          refine ⟨k + 1, ⟨by omega, fun q h => (Nat.lt_succ_iff_lt_or_eq.1 h).elim (hq q) (fun e => by rw [e]; exact hx)⟩, by omega, imp_forget rfl ⟨rfl, rfl, rfl, rfl, (by first | rfl | exact ci (by omega) | exact ci (by simp) | exact cd (by simp) | simp), trivial⟩ trivial⟩
  · skip
    have h10 := f_dec h1
    refine a_exit ?_
    show A _ _ _ _ _ _ _
    refine a_rseq ?_
    refine rg_put (d := 4) (v := .d (.fl (.bool false))) rfl (og rfl (op_assign rfl rfl rfl)) ?_
    refine rg_done rfl ?_
    refine a_ret ?_
    show ∃ ds, ResL _ _ _ ds ∧ RV.of ds = _
    refine ⟨[.fl (.bool false)], (.cons (.tmp rfl (.d _)) .nil), ?_⟩
    have hu : hasL l t = false := any_no (fun q h => hq q (by omega))
    rw [hu]; rfl
theorem has15 (i : Iv) (t : Int) : Ctr Try.prog 26 [.sl 2 (List.map eIv [i]), .fl (.int .i64 t)] (.d (.fl (.bool (hasI i t)))) := by
  have := hasL15 [i] t (by simp)
  rw [hasL_one] at this; exact this
set_option maxHeartbeats 4000000 in
set_option maxRecDepth 100000 in
theorem clone_bd (l : List Bd) (hl : (l.length) * 41 ≤ 140737488355328) : CtrO Try.prog 43 [.sl 4 (List.map eBd l)] (.tr 59 4 (tD eBd l)) := by
  refine ctrO (n := 8) (rs := #[.tmp 2]) (L := [(0, .d (.sl 4 (List.map eBd l)))]) Try.func43 rfl rfl rfl rfl rfl (fun w0 U0 => ?_)
  refine a_rseq ?_
  refine rg_put (d := 2) (v := .d (.fl (.slice none 0 0))) rfl (og rfl (op_assign rfl rfl rfl)) ?_
  refine rg_done rfl ?_
  refine a_seq ?_
  refine a_rseq ?_
  refine rg_put (d := 3) (v := .d (.sl 4 (List.map eBd l))) rfl (og rfl (op_move rfl rfl rfl)) ?_
  refine rg_isnil rfl rfl rfl Try.underlying24 rfl rfl rfl (fun bh1 nh1 => ?_)
  refine rg_done rfl ?_
  refine a_cond rfl (fun h2 => ?_) (fun h2 => ?_)
  · skip
    refine a_rseq ?_
    refine rg_put (d := 2) (v := .d (.fl (.slice none 0 0))) rfl (og rfl (op_assign rfl rfl rfl)) ?_
    refine rg_done rfl ?_
    have hnil : l = [] := by simpa using nh1 h2
    subst hnil
    refine a_imp (imp_nilT 2 101 59 4 rfl rfl) ?_
    refine a_ret ?_
    show ∃ rv, _ = #[rv] ∧ ResO _ _ rv _
    exact ⟨_, rfl, .tmp rfl rfl⟩
  · skip
    refine a_skip ?_
    show A _ _ _ _ _ _ _
    refine a_rseq ?_
    refine rg_nam (d := 5) (v := .ow 102) (m := 102) (nw := [(102, .tr 59 4 (tD eBd []))]) rfl (og rfl (of_eff (op_slice0 102 rfl Try.underlying24 ti59 rfl) rfl)) rfl ?_
    refine rg_put (d := 6) (v := .d (.sl 4 (List.map eBd l))) rfl (og rfl (op_move rfl rfl rfl)) ?_
    refine rg_nam (d := 7) (v := .ow 103) (m := 103) (nw := [(103, .tr 59 4 (tD eBd ([] ++ l))), (102, .no)]) rfl (og rfl (of_eff (s_append_td 103 rfl Try.underlying24 ti59 rfl rfl rfl rfl rfl (.d _) (by simp only [List.length_nil]; omega) rfl) rfl)) rfl ?_
    refine rg_put (d := 2) (v := .ow 103) rfl (og rfl (op_assign rfl rfl rfl)) ?_
    refine rg_done rfl ?_
    refine a_ret ?_
    show ∃ rv, _ = #[rv] ∧ ResO _ _ rv _
    exact ⟨_, rfl, .tmp rfl rfl⟩
set_option maxHeartbeats 4000000 in
set_option maxRecDepth 100000 in
theorem clone_rt (l : List Rt) (hl : (l.length) * 65 ≤ 140737488355328) : CtrO Try.prog 44 [.sl 5 (List.map eRt l)] (.tr 68 5 (tD eRt l)) := by
  refine ctrO (n := 8) (rs := #[.tmp 2]) (L := [(0, .d (.sl 5 (List.map eRt l)))]) Try.func44 rfl rfl rfl rfl rfl (fun w0 U0 => ?_)
  refine a_rseq ?_
  refine rg_put (d := 2) (v := .d (.fl (.slice none 0 0))) rfl (og rfl (op_assign rfl rfl rfl)) ?_
  refine rg_done rfl ?_
  refine a_seq ?_
  refine a_rseq ?_
  refine rg_put (d := 3) (v := .d (.sl 5 (List.map eRt l))) rfl (og rfl (op_move rfl rfl rfl)) ?_
  refine rg_isnil rfl rfl rfl Try.underlying25 rfl rfl rfl (fun bh1 nh1 => ?_)
  refine rg_done rfl ?_
  refine a_cond rfl (fun h2 => ?_) (fun h2 => ?_)
  · skip
    refine a_rseq ?_
    refine rg_put (d := 2) (v := .d (.fl (.slice none 0 0))) rfl (og rfl (op_assign rfl rfl rfl)) ?_
    refine rg_done rfl ?_
    have hnil : l = [] := by simpa using nh1 h2
    subst hnil
    refine a_imp (imp_nilT 2 101 68 5 rfl rfl) ?_
    refine a_ret ?_
    show ∃ rv, _ = #[rv] ∧ ResO _ _ rv _
    exact ⟨_, rfl, .tmp rfl rfl⟩
  · skip
    refine a_skip ?_
    show A _ _ _ _ _ _ _
    refine a_rseq ?_
    refine rg_nam (d := 5) (v := .ow 102) (m := 102) (nw := [(102, .tr 68 5 (tD eRt []))]) rfl (og rfl (of_eff (op_slice0 102 rfl Try.underlying25 ti68 rfl) rfl)) rfl ?_
    refine rg_put (d := 6) (v := .d (.sl 5 (List.map eRt l))) rfl (og rfl (op_move rfl rfl rfl)) ?_
    refine rg_nam (d := 7) (v := .ow 103) (m := 103) (nw := [(103, .tr 68 5 (tD eRt ([] ++ l))), (102, .no)]) rfl (og rfl (of_eff (s_append_td 103 rfl Try.underlying25 ti68 rfl rfl rfl rfl rfl (.d _) (by simp only [List.length_nil]; omega) rfl) rfl)) rfl ?_
    refine rg_put (d := 2) (v := .ow 103) rfl (og rfl (op_assign rfl rfl rfl)) ?_
    refine rg_done rfl ?_
    refine a_ret ?_
    show ∃ rv, _ = #[rv] ∧ ResO _ _ rv _
    exact ⟨_, rfl, .tmp rfl rfl⟩
set_option maxHeartbeats 4000000 in
set_option maxRecDepth 100000 in
theorem fresh_ta (x : Ta) (h1 : x.bands.length ≤ 1000) (h2 : x.rates.length ≤ 1000) : CtrO Try.prog 27 [.ag (eTa x)] (.sv (oTa x)) := by
  refine ctrO (n := 12) (rs := #[.cell 2 27]) (L := [(0, .d (.ag (eTa x)))]) Try.func27 rfl rfl rfl rfl rfl (fun w0 U0 => ?_)
  refine a_rseq ?_
  refine rg_nam (d := 1) (v := .pt 101 0) (m := 101) (nw := [(101, .bx 27 (eTa x))]) rfl (og rfl (of_eff (op_box 101 rfl rfl rfl rfl) rfl)) rfl ?_
  refine rg_nam (d := 2) (v := .pt 102 0) (m := 102) (nw := [(102, .bx 27 [.fl (.int .i64 0), .fl (.int .i64 0), .fl (.slice none 0 0), .fl (.slice none 0 0)])]) rfl (og rfl (of_eff (s_alloc 102 rfl ti27 (by kernel_rfl) rfl) rfl)) rfl ?_
  refine rg_done rfl ?_
  refine a_rseq ?_
  refine rg_imp (imp_bt 101 rfl) ?_
  refine rg_imp (imp_bt 102 rfl) ?_
  refine rg_put (d := 3) (v := .pt 101 2) rfl (og rfl (of_eff (s_field_pt rfl Try.underlying27 rfl ti24 rfl rfl rfl) rfl)) ?_
  refine rg_put (d := 4) (v := .d (.sl 4 (List.map eBd x.bands))) rfl (og rfl (op_load_bt rfl Try.underlying24 rfl rfl rfl rfl rfl)) ?_
  refine rg_nam (d := 5) (v := .ow 103) (m := 103) (nw := [(103, .tr 59 4 (tD eBd x.bands))]) rfl (og rfl (of_eff (op_callO 103 rfl Try.func43 nm43 rfl (.cons rfl (.d _) .nil) (clone_bd x.bands (by omega)) rfl) rfl)) rfl ?_
  refine rg_put (d := 6) (v := .pt 101 2) rfl (og rfl (of_eff (s_field_pt rfl Try.underlying27 rfl ti24 rfl rfl rfl) rfl)) ?_
  refine rg_sto (nw := [(101, .bt 27 [.dv (.fl (.int .i64 x.val.fr)), .dv (.fl (.int .i64 x.val.to)), .ow 59 4 (List.map eBd x.bands), .dv (.sl 5 (List.map eRt x.rates))]), (103, .no)]) rfl (og rfl (of_eff (op_store_bt rfl rfl ti24 rfl rfl rfl (.tr rfl) rfl rfl rfl) rfl)) ?_
  refine rg_done rfl ?_
  refine a_rseq ?_
  refine rg_put (d := 7) (v := .pt 101 3) rfl (og rfl (of_eff (s_field_pt rfl Try.underlying27 rfl ti25 rfl rfl rfl) rfl)) ?_
  refine rg_put (d := 8) (v := .d (.sl 5 (List.map eRt x.rates))) rfl (og rfl (op_load_bt rfl Try.underlying25 rfl rfl rfl rfl rfl)) ?_
  refine rg_nam (d := 9) (v := .ow 104) (m := 104) (nw := [(104, .tr 68 5 (tD eRt x.rates))]) rfl (og rfl (of_eff (op_callO 104 rfl Try.func44 nm44 rfl (.cons rfl (.d _) .nil) (clone_rt x.rates (by omega)) rfl) rfl)) rfl ?_
  refine rg_put (d := 10) (v := .pt 101 3) rfl (og rfl (of_eff (s_field_pt rfl Try.underlying27 rfl ti25 rfl rfl rfl) rfl)) ?_
  refine rg_sto (nw := [(101, .bt 27 [.dv (.fl (.int .i64 x.val.fr)), .dv (.fl (.int .i64 x.val.to)), .ow 59 4 (List.map eBd x.bands), .ow 68 5 (List.map eRt x.rates)]), (104, .no)]) rfl (og rfl (of_eff (op_store_bt rfl rfl ti25 rfl rfl rfl (.tr rfl) rfl rfl rfl) rfl)) ?_
  refine rg_done rfl ?_
  refine a_rseq ?_
  refine rg_nam (d := 11) (v := .ow 105) (m := 105) (nw := [(105, .sv [.dv (.fl (.int .i64 x.val.fr)), .dv (.fl (.int .i64 x.val.to)), .ow 59 4 (List.map eBd x.bands), .ow 68 5 (List.map eRt x.rates)]), (101, .no)]) rfl (og rfl (of_eff (op_move_bt 105 rfl Try.underlying27 rfl ti27 rfl rfl rfl rfl) rfl)) rfl ?_
  refine rg_sto (nw := [(102, .bt 27 [.dv (.fl (.int .i64 x.val.fr)), .dv (.fl (.int .i64 x.val.to)), .ow 59 4 (List.map eBd x.bands), .ow 68 5 (List.map eRt x.rates)]), (105, .no)]) rfl (og rfl (of_eff (op_store_bt rfl rfl ti27 rfl rfl rfl (.sv rfl) rfl rfl rfl) rfl)) ?_
  refine rg_done rfl ?_
  refine a_ret ?_
  show ∃ rv, _ = #[rv] ∧ ResO _ _ rv _
  exact ⟨_, rfl, .cell rfl rfl Try.underlying27 rfl ti27 rfl⟩
theorem copy16 (x : Ta) (h1 : x.bands.length ≤ 1000) (h2 : x.rates.length ≤ 1000) : Ctr Try.prog 27 [.ag (eTa x)] (.d (.ag (eTa x))) := ctr_of_O (fresh_ta x h1 h2) rfl
set_option maxHeartbeats 4000000 in
set_option maxRecDepth 100000 in
theorem at8 (l : List Ta) (t : Int) (hl : l.length ≤ 1000) (hz : ∀ q, q < l.length → (ix l q).bands.length ≤ 1000 ∧ (ix l q).rates.length ≤ 1000) : Ctr Try.prog 14 [.sl 4 (List.map eTa l), .fl (.int .i64 t)] (.tu [.ag (eTa (att l t).1), .fl (.int .i64 (att l t).2)]) := by
  refine ctr (n := 23) (rs := #[.cell 4 27, .tmp 5]) (L := [(0, .d (.sl 4 (List.map eTa l))), (1, .d (.fl (.int .i64 t)))]) Try.func14 rfl rfl rfl rfl rfl (fun w0 U0 => ?_)
  refine a_rseq ?_
  refine rg_nam (d := 4) (v := .pt 101 0) (m := 101) (nw := [(101, .bx 27 [.fl (.int .i64 0), .fl (.int .i64 0), .fl (.slice none 0 0), .fl (.slice none 0 0)])]) rfl (og rfl (of_eff (s_alloc 101 rfl ti27 (by kernel_rfl) rfl) rfl)) rfl ?_
  refine rg_put (d := 5) (v := .d (.fl (.int .i64 0))) rfl (og rfl (op_assign rfl rfl rfl)) ?_
  refine rg_done rfl ?_
  refine a_seq ?_
  refine a_rseq ?_
  refine rg_put (d := 8) (v := .d (.sl 4 (List.map eTa l))) rfl (og rfl (op_move rfl rfl rfl)) ?_
  refine rg_put (d := 9) (v := .d (.fl (.int .i64 (l.length : Int)))) rfl (og rfl (s_len rfl Try.underlying42 rfl rfl)) ?_
  refine rg_put (d := 10) (v := .d (.fl (.int .i64 0))) rfl (og rfl (op_move rfl rfl rfl)) ?_
  refine rg_done rfl ?_
  refine a_block ?_
  refine a_loop (ι := Nat) (fun k => SS [(0, .d (.sl 4 (List.map eTa l))), (1, .d (.fl (.int .i64 t))), (4, .pt 101 0), (8, .d (.sl 4 (List.map eTa l))), (9, .d (.fl (.int .i64 (l.length : Int)))), (10, .d (.fl (.int .i64 (k : Int))))] [(101, .bx 27 [.fl (.int .i64 0), .fl (.int .i64 0), .fl (.slice none 0 0), .fl (.slice none 0 0)])]) (fun k => k ≤ l.length ∧ ∀ q, q < k → hasI (ix l q).val t = false) (fun k => l.length - k) 0 (⟨by omega, fun q h => by omega⟩) (imp_forget rfl ⟨rfl, rfl, rfl, rfl, rfl, (by first | rfl | exact ci (by omega) | exact ci (by simp) | exact cd (by simp) | simp), trivial⟩ ⟨rfl, trivial⟩) (fun k hok => ?_)
  obtain ⟨hk, hq⟩ := hok
  refine a_rseq ?_
  refine rg_put (d := 11) (v := .d (.fl (.bool ((decide ((k : Int) < (l.length : Int))))))) rfl (og rfl (op_bin rfl rfl rfl (b_lss _ _ _ _) rfl)) ?_
  refine rg_done rfl ?_
  refine a_seq ?_
  refine a_cond rfl (fun h1 => ?_) (fun h1 => ?_)
  · skip
    have h2 := t_dec h1
    refine a_skip ?_
    show A _ _ _ _ _ _ _
    refine a_seq ?_
    refine a_block ?_
    refine a_rseq ?_
    refine rg_put (d := 12) (v := .el ((eTa (ix l k)))) rfl (og rfl (s_index rfl Try.underlying42 ti27 rfl rfl (by omega) (row_at (by omega)) rfl)) ?_
    refine rg_put (d := 13) (v := .d (.ag (eTa (ix l k)))) rfl (og rfl (of_eff (s_load_els rfl Try.underlying27 rfl ti27 rfl rfl rfl) rfl)) ?_
    refine rg_nam (d := 7) (v := .pt 102 0) (m := 102) (nw := [(102, .bx 27 [.fl (.int .i64 0), .fl (.int .i64 0), .fl (.slice none 0 0), .fl (.slice none 0 0)])]) rfl (og rfl (of_eff (s_alloc 102 rfl ti27 (by kernel_rfl) rfl) rfl)) rfl ?_
    refine rg_sto (nw := [(102, .bx 27 ((eTa (ix l k))))]) rfl (og rfl (of_eff (s_store rfl rfl ti27 rfl rfl rfl rfl rfl rfl) rfl)) ?_
    refine rg_done rfl ?_
    refine a_rseq ?_
    refine rg_put (d := 14) (v := .pt 102 0) rfl (og rfl (of_eff (s_field_pt rfl Try.underlying27 rfl ti23 rfl rfl rfl) rfl)) ?_
    refine rg_put (d := 15) (v := .d (.ag (eIv ((ix l k).val)))) rfl (og rfl (of_eff (s_load_pts rfl Try.underlying23 rfl ti23 rfl rfl rfl rfl) rfl)) ?_
    refine rg_put (d := 16) (v := .d (.sl 2 (List.map eIv [(ix l k).val]))) rfl (og rfl (of_eff (op_slices rfl Try.underlying70 ti23 rfl rfl rfl (by kernel_rfl) (xs := [.ag (eIv ((ix l k).val))]) rfl rfl (.cons rfl rfl (.d _) rfl rfl rfl .nil) rfl) rfl)) ?_
    refine rg_put (d := 17) (v := .d (.fl (.int .i64 t))) rfl (og rfl (op_move rfl rfl rfl)) ?_
    refine rg_put (d := 18) (v := .d (.fl (.bool ((hasI ((ix l k).val) t))))) rfl (og rfl (op_call rfl Try.func26 nm26 rfl (.cons rfl (.d _) (.cons rfl (.d _) .nil)) (has15 ((ix l k).val) t) rfl)) ?_
    refine rg_done rfl ?_
    refine a_cond rfl (fun h3 => ?_) (fun h3 => ?_)
    · skip
      refine a_rseq ?_
      refine rg_put (d := 19) (v := .d (.ag (eTa (ix l k)))) rfl (og rfl (of_eff (s_load_pts rfl Try.underlying27 rfl ti27 rfl rfl rfl rfl) rfl)) ?_
      refine rg_put (d := 20) (v := .d (.ag (eTa (ix l k)))) rfl (og rfl (op_call rfl Try.func27 nm27 rfl (.cons rfl (.d _) .nil) (copy16 (ix l k) (by have := hz k (by omega); omega) (by have := hz k (by omega); omega)) rfl)) ?_
      refine rg_sto (nw := [(101, .bx 27 ((eTa (ix l k))))]) rfl (og rfl (of_eff (s_store rfl rfl ti27 rfl rfl rfl rfl rfl rfl) rfl)) ?_
      refine rg_put (d := 5) (v := .d (.fl (.int .i64 0))) rfl (og rfl (op_assign rfl rfl rfl)) ?_
      refine rg_done rfl ?_
      refine a_ret ?_
      show ∃ ds, ResL _ _ _ ds ∧ RV.of ds = _
      refine ⟨[.ag [.fl (.int .i64 (((ix l k).val).fr)), .fl (.int .i64 (((ix l k).val).to)), .sl 4 (List.map eBd ((ix l k).bands)), .sl 5 (List.map eRt ((ix l k).rates))], .fl (.int .i64 0)], (.cons (.cellT rfl rfl Try.underlying27 rfl ti27 rfl (Cv.ag (xs := [.fl (.int .i64 (((ix l k).val).fr)), .fl (.int .i64 (((ix l k).val).to)), .sl 4 (List.map eBd ((ix l k).bands)), .sl 5 (List.map eRt ((ix l k).rates))]) (ys := [.fl (.int .i64 (((ix l k).val).fr)), .fl (.int .i64 (((ix l k).val).to)), .sl 4 (List.map eBd ((ix l k).bands)), .sl 5 (List.map eRt ((ix l k).rates))]) ⟨Cv.refl _, Cv.refl _, Cv.refl _, Cv.refl _, trivial⟩)) (.cons (.tmp rfl (.d _)) .nil)), ?_⟩
      have hu := att_at (by omega) hq h3
      rw [hu]; rfl
    · skip
      refine a_skip ?_
      show A _ _ _ _ _ _ _
      refine a_region ?_
      refine rg_put (d := 21) (v := .d (.fl (.int .i64 (((k : Int) + 1))))) rfl (og rfl (op_bin rfl rfl rfl (fun x y w => b_add64 _ _ _ x y w (by omega)) rfl)) ?_
      refine rg_put (d := 10) (v := .d (.fl (.int .i64 (((k : Int) + 1))))) rfl (og rfl (op_move rfl rfl rfl)) ?_
      refine rg_done rfl ?_
      have hx : hasI (ix l k).val t = false := h3
      show ∃ i, _ ∧ _ ∧ Imp _ _ _ _ _
      refine ⟨k + 1, ⟨by omega, fun q h => (Nat.lt_succ_iff_lt_or_eq.1 h).elim (hq q) (fun e => by rw [e]; exact hx)⟩, by omega, imp_forget rfl ⟨rfl, rfl, rfl, rfl, rfl, (by first | rfl | exact ci (by omega) | exact ci (by simp) | exact cd (by simp) | simp), trivial⟩ ⟨rfl, trivial⟩⟩
  · skip
    have h4 := f_dec h1
    refine a_exit ?_
    show A _ _ _ _ _ _ _
    refine a_rseq ?_
    refine rg_put (d := 22) (v := .d (.ag [.fl (.int .i64 0), .fl (.int .i64 0), .fl (.slice none 0 0), .fl (.slice none 0 0)])) rfl (og rfl (of_eff (op_build rfl Try.underlying27 ti27 rfl (by kernel_rfl) (by kernel_rfl) (pl := #[(0, 2), (2, 1), (3, 1)]) (by kernel_rfl) .nil rfl) rfl)) ?_
    refine rg_sto (nw := [(101, .bx 27 [.fl (.int .i64 0), .fl (.int .i64 0), .fl (.slice none 0 0), .fl (.slice none 0 0)])]) rfl (og rfl (of_eff (s_store rfl rfl ti27 rfl rfl rfl rfl rfl rfl) rfl)) ?_
    refine rg_put (d := 5) (v := .d (.fl (.int .i64 22))) rfl (og rfl (op_assign rfl rfl rfl)) ?_
    refine rg_done rfl ?_
    refine a_ret ?_
    show ∃ ds, ResL _ _ _ ds ∧ RV.of ds = _
    refine ⟨[.ag [.fl (.int .i64 0), .fl (.int .i64 0), .sl 4 (List.map eBd []), .sl 5 (List.map eRt [])], .fl (.int .i64 22)], (.cons (.cellT rfl rfl Try.underlying27 rfl ti27 rfl (Cv.ag (xs := [.fl (.int .i64 0), .fl (.int .i64 0), .fl (.slice none 0 0), .fl (.slice none 0 0)]) (ys := [.fl (.int .i64 0), .fl (.int .i64 0), .sl 4 (List.map eBd []), .sl 5 (List.map eRt [])]) ⟨Cv.refl _, Cv.refl _, Cv.nil _, Cv.nil _, trivial⟩)) (.cons (.tmp rfl (.d _)) .nil)), ?_⟩
    have hu := att_no (fun q h => hq q (by omega))
    rw [hu]; rfl





set_option maxHeartbeats 4000000 in
set_option maxRecDepth 100000 in
theorem sameR18 (a : List Rt) (hl : a.length ≤ 1000) : Ctr Try.prog 28 [.sl 5 (List.map eRt a), .sl 5 (List.map eRt a)] (.d (.fl (.bool true))) := by
  refine ctr (n := 26) (rs := #[.tmp 4]) (L := [(0, .d (.sl 5 (List.map eRt a))), (1, .d (.sl 5 (List.map eRt a)))]) Try.func28 rfl rfl rfl rfl rfl (fun w0 U0 => ?_)
  refine a_rseq ?_
  refine rg_put (d := 4) (v := .d (.fl (.bool false))) rfl (og rfl (op_assign rfl rfl rfl)) ?_
  refine rg_done rfl ?_
  refine a_seq ?_
  refine a_rseq ?_
  refine rg_put (d := 6) (v := .d (.sl 5 (List.map eRt a))) rfl (og rfl (op_move rfl rfl rfl)) ?_
  refine rg_put (d := 7) (v := .d (.fl (.int .i64 (a.length : Int)))) rfl (og rfl (s_len rfl Try.underlying25 rfl rfl)) ?_
  refine rg_put (d := 8) (v := .d (.sl 5 (List.map eRt a))) rfl (og rfl (op_move rfl rfl rfl)) ?_
  refine rg_put (d := 9) (v := .d (.fl (.int .i64 (a.length : Int)))) rfl (og rfl (s_len rfl Try.underlying25 rfl rfl)) ?_
  refine rg_put (d := 10) (v := .d (.fl (.bool (((a.length : Int) != (a.length : Int)))))) rfl (og rfl (op_bin rfl rfl rfl (b_neq _ _ _ _) rfl)) ?_
  refine rg_done rfl ?_
  refine a_condF rfl (ne_self_b _) ?_
  refine a_skip ?_
  show A _ _ _ _ _ _ _
  refine a_seq ?_
  refine a_rseq ?_
  refine rg_put (d := 5) (v := .d (.fl (.int .i64 0))) rfl (og rfl (op_assign rfl rfl rfl)) ?_
  refine rg_done rfl ?_
  refine a_block ?_
  refine a_loop (ι := Nat) (fun k => SS [(0, .d (.sl 5 (List.map eRt a))), (1, .d (.sl 5 (List.map eRt a))), (10, .d (.fl (.bool (((a.length : Int) != (a.length : Int)))))), (5, .d (.fl (.int .i64 (k : Int))))] []) (fun k => k ≤ a.length) (fun k => a.length - k) 0 (by omega) (imp_forget rfl ⟨rfl, rfl, rfl, (by first | rfl | exact ci (by omega) | exact ci (by simp) | exact cd (by simp) | simp), trivial⟩ trivial) (fun k hok => ?_)
  have hk := hok
  refine a_seq ?_
  refine a_rseq ?_
  refine rg_put (d := 11) (v := .d (.fl (.int .i64 (k : Int)))) rfl (og rfl (op_move rfl rfl rfl)) ?_
  refine rg_put (d := 12) (v := .d (.sl 5 (List.map eRt a))) rfl (og rfl (op_move rfl rfl rfl)) ?_
  refine rg_put (d := 13) (v := .d (.fl (.int .i64 (a.length : Int)))) rfl (og rfl (s_len rfl Try.underlying25 rfl rfl)) ?_
  refine rg_put (d := 14) (v := .d (.fl (.bool ((decide ((k : Int) < (a.length : Int))))))) rfl (og rfl (op_bin rfl rfl rfl (b_lss _ _ _ _) rfl)) ?_
  refine rg_done rfl ?_
  refine a_cond rfl (fun h1 => ?_) (fun h1 => ?_)
  · skip
    have h2 := t_dec h1
    refine a_skip ?_
    show A _ _ _ _ _ _ _
    refine a_seq ?_
    refine a_block ?_
    refine a_dseq (by kernel_rfl) ?_
    refine dr_put (d := 17) (v := .d (.sl 5 (List.map eRt a))) rfl (og rfl (op_move rfl rfl rfl)) ?_
    refine dr_put (d := 18) (v := .d (.fl (.int .i64 (k : Int)))) rfl (og rfl (op_move rfl rfl rfl)) ?_
    refine dr_put (d := 19) (v := .el ((eRt (ix a k)))) rfl (og rfl (s_index rfl Try.underlying25 ti68 rfl rfl (by omega) (row_at (by omega)) rfl)) ?_
    refine dr_put (d := 20) (v := .d (.ag (eRt (ix a k)))) rfl (og rfl (of_eff (s_load_els rfl Try.underlying68 rfl ti68 rfl rfl rfl) rfl)) ?_
    refine dr_put (d := 21) (v := .d (.sl 5 (List.map eRt a))) rfl (og rfl (op_move rfl rfl rfl)) ?_
    refine dr_put (d := 22) (v := .d (.fl (.int .i64 (k : Int)))) rfl (og rfl (op_move rfl rfl rfl)) ?_
    refine dr_put (d := 23) (v := .el ((eRt (ix a k)))) rfl (og rfl (s_index rfl Try.underlying25 ti68 rfl rfl (by omega) (row_at (by omega)) rfl)) ?_
    refine dr_put (d := 24) (v := .d (.ag (eRt (ix a k)))) rfl (og rfl (of_eff (s_load_els rfl Try.underlying68 rfl ti68 rfl rfl rfl) rfl)) ?_
    refine dr_put (d := 25) (v := .d (.fl (.bool false))) rfl (og rfl (op_eqS [.string ((ix a k).fr), .string ((ix a k).to), .int .i64 ((ix a k).cls), .string ((ix a k).band), .int .i64 ((ix a k).cents)] [.string ((ix a k).fr), .string ((ix a k).to), .int .i64 ((ix a k).cls), .string ((ix a k).band), .int .i64 ((ix a k).cents)] rfl rfl rfl (b := false) (fun ww => neq68 (ix a k) _ _ ww) rfl)) ?_
    refine dr_done rfl (by kernel_rfl) (by kernel_rfl) ?_
    refine a_condF rfl rfl ?_
    refine a_skip ?_
    show A _ _ _ _ _ _ _
    refine a_region ?_
    refine rg_put (d := 15) (v := .d (.fl (.int .i64 (k : Int)))) rfl (og rfl (op_move rfl rfl rfl)) ?_
    refine rg_put (d := 16) (v := .d (.fl (.int .i64 (((k : Int) + 1))))) rfl (og rfl (op_bin rfl rfl rfl (fun x y w => b_add64 _ _ _ x y w (by omega)) rfl)) ?_
    refine rg_put (d := 5) (v := .d (.fl (.int .i64 (((k : Int) + 1))))) rfl (og rfl (op_assign rfl rfl rfl)) ?_
    refine rg_done rfl ?_
    show ∃ i, _ ∧ _ ∧ Imp _ _ _ _ _
    refine ⟨k + 1, (by omega), by omega, imp_forget rfl ⟨rfl, rfl, rfl, (by first | rfl | exact ci (by omega) | exact ci (by simp) | exact cd (by simp) | simp), trivial⟩ trivial⟩
  · skip
    have h3 := f_dec h1
    refine a_exit ?_
    show A _ _ _ _ _ _ _
    refine a_rseq ?_
    refine rg_put (d := 4) (v := .d (.fl (.bool true))) rfl (og rfl (op_assign rfl rfl rfl)) ?_
    refine rg_done rfl ?_
    refine a_ret ?_
    show ∃ ds, ResL _ _ _ ds ∧ RV.of ds = _
    refine ⟨[.fl (.bool true)], (.cons (.tmp rfl (.d _)) .nil), ?_⟩
    rfl
set_option maxHeartbeats 4000000 in
set_option maxRecDepth 100000 in
theorem same10 (x : Ta) (hb : x.bands.length ≤ 1000) (hr : x.rates.length ≤ 1000) : Ctr Try.prog 15 [.ag (eTa x), .ag (eTa x)] (.d (.fl (.bool true))) := by
  refine ctr (n := 43) (rs := #[.tmp 4]) (L := [(0, .d (.ag (eTa x))), (1, .d (.ag (eTa x)))]) Try.func15 rfl rfl rfl rfl rfl (fun w0 U0 => ?_)
  refine a_rseq ?_
  refine rg_nam (d := 2) (v := .pt 101 0) (m := 101) (nw := [(101, .bx 27 (eTa x))]) rfl (og rfl (of_eff (op_box 101 rfl rfl rfl rfl) rfl)) rfl ?_
  refine rg_nam (d := 3) (v := .pt 102 0) (m := 102) (nw := [(102, .bx 27 (eTa x))]) rfl (og rfl (of_eff (op_box 102 rfl rfl rfl rfl) rfl)) rfl ?_
  refine rg_put (d := 4) (v := .d (.fl (.bool false))) rfl (og rfl (op_assign rfl rfl rfl)) ?_
  refine rg_done rfl ?_
  refine a_seq ?_
  refine a_rseq ?_
  refine rg_put (d := 6) (v := .pt 101 0) rfl (og rfl (of_eff (s_field_pt rfl Try.underlying27 rfl ti23 rfl rfl rfl) rfl)) ?_
  refine rg_put (d := 7) (v := .d (.ag (eIv x.val))) rfl (og rfl (of_eff (s_load_pts rfl Try.underlying23 rfl ti23 rfl rfl rfl rfl) rfl)) ?_
  refine rg_put (d := 8) (v := .pt 102 0) rfl (og rfl (of_eff (s_field_pt rfl Try.underlying27 rfl ti23 rfl rfl rfl) rfl)) ?_
  refine rg_put (d := 9) (v := .d (.ag (eIv x.val))) rfl (og rfl (of_eff (s_load_pts rfl Try.underlying23 rfl ti23 rfl rfl rfl rfl) rfl)) ?_
  refine rg_put (d := 10) (v := .d (.fl (.bool false))) rfl (og rfl (op_eqS [.int .i64 x.val.fr, .int .i64 x.val.to] [.int .i64 x.val.fr, .int .i64 x.val.to] rfl rfl rfl (b := false) (fun ww => neq23 x.val _ _ ww) rfl)) ?_
  refine rg_put (d := 11) (v := .d (.fl (.bool false))) rfl (og rfl (op_move rfl rfl rfl)) ?_
  refine rg_put (d := 12) (v := .pt 101 2) rfl (oy rfl rfl rfl rfl (of_eff (s_field_pt rfl Try.underlying27 rfl ti24 rfl rfl rfl) rfl)) ?_
  refine rg_put (d := 13) (v := .d (.sl 4 (List.map eBd x.bands))) rfl (oy rfl rfl rfl rfl (op_load_pt rfl Try.underlying24 rfl rfl rfl rfl rfl)) ?_
  refine rg_put (d := 14) (v := .d (.fl (.int .i64 (x.bands.length : Int)))) rfl (oy rfl rfl rfl rfl (s_len rfl Try.underlying24 rfl rfl)) ?_
  refine rg_put (d := 15) (v := .pt 102 2) rfl (oy rfl rfl rfl rfl (of_eff (s_field_pt rfl Try.underlying27 rfl ti24 rfl rfl rfl) rfl)) ?_
  refine rg_put (d := 16) (v := .d (.sl 4 (List.map eBd x.bands))) rfl (oy rfl rfl rfl rfl (op_load_pt rfl Try.underlying24 rfl rfl rfl rfl rfl)) ?_
  refine rg_put (d := 17) (v := .d (.fl (.int .i64 (x.bands.length : Int)))) rfl (oy rfl rfl rfl rfl (s_len rfl Try.underlying24 rfl rfl)) ?_
  refine rg_put (d := 18) (v := .d (.fl (.bool (((x.bands.length : Int) != (x.bands.length : Int)))))) rfl (oy rfl rfl rfl rfl (op_bin rfl rfl rfl (b_neq _ _ _ _) rfl)) ?_
  refine rg_put (d := 19) (v := .d (.fl (.bool (((x.bands.length : Int) != (x.bands.length : Int)))))) rfl (og rfl (op_pick rfl rfl rfl rfl)) ?_
  refine rg_done rfl ?_
  refine a_condF rfl (ne_self_b _) ?_
  refine a_skip ?_
  show A _ _ _ _ _ _ _
  refine a_seq ?_
  refine a_rseq ?_
  refine rg_put (d := 5) (v := .d (.fl (.int .i64 0))) rfl (og rfl (op_assign rfl rfl rfl)) ?_
  refine rg_done rfl ?_
  refine a_block ?_
  refine a_loop (ι := Nat) (fun k => SS [(0, .d (.ag (eTa x))), (1, .d (.ag (eTa x))), (2, .pt 101 0), (3, .pt 102 0), (19, .d (.fl (.bool (((x.bands.length : Int) != (x.bands.length : Int)))))), (5, .d (.fl (.int .i64 (k : Int))))] [(101, .bx 27 (eTa x)), (102, .bx 27 (eTa x))]) (fun k => k ≤ x.bands.length) (fun k => x.bands.length - k) 0 (by omega) (imp_forget rfl ⟨rfl, rfl, rfl, rfl, rfl, (by first | rfl | exact ci (by omega) | exact ci (by simp) | exact cd (by simp) | simp), trivial⟩ ⟨rfl, rfl, trivial⟩) (fun k hok => ?_)
  have hk := hok
  refine a_seq ?_
  refine a_rseq ?_
  refine rg_put (d := 20) (v := .d (.fl (.int .i64 (k : Int)))) rfl (og rfl (op_move rfl rfl rfl)) ?_
  refine rg_put (d := 21) (v := .pt 101 2) rfl (og rfl (of_eff (s_field_pt rfl Try.underlying27 rfl ti24 rfl rfl rfl) rfl)) ?_
  refine rg_put (d := 22) (v := .d (.sl 4 (List.map eBd x.bands))) rfl (og rfl (op_load_pt rfl Try.underlying24 rfl rfl rfl rfl rfl)) ?_
  refine rg_put (d := 23) (v := .d (.fl (.int .i64 (x.bands.length : Int)))) rfl (og rfl (s_len rfl Try.underlying24 rfl rfl)) ?_
  refine rg_put (d := 24) (v := .d (.fl (.bool ((decide ((k : Int) < (x.bands.length : Int))))))) rfl (og rfl (op_bin rfl rfl rfl (b_lss _ _ _ _) rfl)) ?_
  refine rg_done rfl ?_
  refine a_cond rfl (fun h1 => ?_) (fun h1 => ?_)
  · skip
    have h2 := t_dec h1
    refine a_skip ?_
    show A _ _ _ _ _ _ _
    refine a_seq ?_
    refine a_block ?_
    refine a_dseq (by kernel_rfl) ?_
    refine dr_put (d := 27) (v := .pt 101 2) rfl (og rfl (of_eff (s_field_pt rfl Try.underlying27 rfl ti24 rfl rfl rfl) rfl)) ?_
    refine dr_put (d := 28) (v := .d (.sl 4 (List.map eBd x.bands))) rfl (og rfl (op_load_pt rfl Try.underlying24 rfl rfl rfl rfl rfl)) ?_
    refine dr_put (d := 29) (v := .d (.fl (.int .i64 (k : Int)))) rfl (og rfl (op_move rfl rfl rfl)) ?_
    refine dr_put (d := 30) (v := .el ((eBd (ix x.bands k)))) rfl (og rfl (s_index rfl Try.underlying24 ti59 rfl rfl (by omega) (row_at (by omega)) rfl)) ?_
    refine dr_put (d := 31) (v := .d (.ag (eBd (ix x.bands k)))) rfl (og rfl (of_eff (s_load_els rfl Try.underlying59 rfl ti59 rfl rfl rfl) rfl)) ?_
    refine dr_put (d := 32) (v := .pt 102 2) rfl (og rfl (of_eff (s_field_pt rfl Try.underlying27 rfl ti24 rfl rfl rfl) rfl)) ?_
    refine dr_put (d := 33) (v := .d (.sl 4 (List.map eBd x.bands))) rfl (og rfl (op_load_pt rfl Try.underlying24 rfl rfl rfl rfl rfl)) ?_
    refine dr_put (d := 34) (v := .d (.fl (.int .i64 (k : Int)))) rfl (og rfl (op_move rfl rfl rfl)) ?_
    refine dr_put (d := 35) (v := .el ((eBd (ix x.bands k)))) rfl (og rfl (s_index rfl Try.underlying24 ti59 rfl rfl (by omega) (row_at (by omega)) rfl)) ?_
    refine dr_put (d := 36) (v := .d (.ag (eBd (ix x.bands k)))) rfl (og rfl (of_eff (s_load_els rfl Try.underlying59 rfl ti59 rfl rfl rfl) rfl)) ?_
    refine dr_put (d := 37) (v := .d (.fl (.bool false))) rfl (og rfl (op_eqS [.string ((ix x.bands k).name), .int .i64 (((ix x.bands k).win).days), .int .i64 (((ix x.bands k).win).fr), .int .i64 (((ix x.bands k).win).to)] [.string ((ix x.bands k).name), .int .i64 (((ix x.bands k).win).days), .int .i64 (((ix x.bands k).win).fr), .int .i64 (((ix x.bands k).win).to)] rfl rfl rfl (b := false) (fun ww => neq59 (ix x.bands k) _ _ ww) rfl)) ?_
    refine dr_done rfl (by kernel_rfl) (by kernel_rfl) ?_
    refine a_condF rfl rfl ?_
    refine a_skip ?_
    show A _ _ _ _ _ _ _
    refine a_region ?_
    refine rg_put (d := 25) (v := .d (.fl (.int .i64 (k : Int)))) rfl (og rfl (op_move rfl rfl rfl)) ?_
    refine rg_put (d := 26) (v := .d (.fl (.int .i64 (((k : Int) + 1))))) rfl (og rfl (op_bin rfl rfl rfl (fun x y w => b_add64 _ _ _ x y w (by omega)) rfl)) ?_
    refine rg_put (d := 5) (v := .d (.fl (.int .i64 (((k : Int) + 1))))) rfl (og rfl (op_assign rfl rfl rfl)) ?_
    refine rg_done rfl ?_
    show ∃ i, _ ∧ _ ∧ Imp _ _ _ _ _
    refine ⟨k + 1, (by omega), by omega, imp_forget rfl ⟨rfl, rfl, rfl, rfl, rfl, (by first | rfl | exact ci (by omega) | exact ci (by simp) | exact cd (by simp) | simp), trivial⟩ ⟨rfl, rfl, trivial⟩⟩
  · skip
    have h3 := f_dec h1
    refine a_exit ?_
    show A _ _ _ _ _ _ _
    refine a_rseq ?_
    refine rg_put (d := 38) (v := .pt 101 3) rfl (og rfl (of_eff (s_field_pt rfl Try.underlying27 rfl ti25 rfl rfl rfl) rfl)) ?_
    refine rg_put (d := 39) (v := .d (.sl 5 (List.map eRt x.rates))) rfl (og rfl (op_load_pt rfl Try.underlying25 rfl rfl rfl rfl rfl)) ?_
    refine rg_put (d := 40) (v := .pt 102 3) rfl (og rfl (of_eff (s_field_pt rfl Try.underlying27 rfl ti25 rfl rfl rfl) rfl)) ?_
    refine rg_put (d := 41) (v := .d (.sl 5 (List.map eRt x.rates))) rfl (og rfl (op_load_pt rfl Try.underlying25 rfl rfl rfl rfl rfl)) ?_
    refine rg_put (d := 42) (v := .d (.fl (.bool true))) rfl (og rfl (op_call rfl Try.func28 nm28 rfl (.cons rfl (.d _) (.cons rfl (.d _) .nil)) (sameR18 x.rates (by omega)) rfl)) ?_
    refine rg_put (d := 4) (v := .d (.fl (.bool true))) rfl (og rfl (op_assign rfl rfl rfl)) ?_
    refine rg_done rfl ?_
    refine a_ret ?_
    show ∃ ds, ResL _ _ _ ds ∧ RV.of ds = _
    refine ⟨[.fl (.bool true)], (.cons (.tmp rfl (.d _)) .nil), ?_⟩
    rfl

end Go.Proofs.Ytlmihhecpaomjaa.Wq
