/- The law of the clocks that drift. No condition. -/
import Derived.Test.YtajhpdmbmipboaaB9
set_option linter.unusedSimpArgs false
set_option linter.unusedVariables false
namespace Go.Proofs.Ytajhpdmbmipboaa.Wk
open Go Go.RowKit Go.Proofs.Ytajhpdmbmipboaa.Av
def zDc : Dc := Dc.mk ⟨#[]⟩ ⟨#[]⟩ 0 0 [] []
def fnE (l : List Dc) (s : ByteArray) : Dc × Bool := match l.find? (fun d => sEq d.name s) with
  | some d => (d, true)
  | none => (zDc, false)
theorem fnE_at {l : List Dc} {s : ByteArray} {k : Nat} (hk : k < l.length) (h : ∀ q, q < k → sEq (ix l q).name s = false) (hp : sEq (ix l k).name s = true) : fnE l s = (ix l k, true) := by unfold fnE; rw [fnd_at hk h hp]
theorem fnE_no {l : List Dc} {s : ByteArray} (h : ∀ q, q < l.length → sEq (ix l q).name s = false) : fnE l s = (zDc, false) := by unfold fnE; rw [fnd_no h]
theorem fe_each {f : Nat → Int} : ∀ (n i : Nat), fe f i n = 0 → ∀ j, i ≤ j → j < i + n → f j = 0
  | 0, i, _, j, h1, h2 => by omega
  | n + 1, i, h, j, h1, h2 => by
    have hs : fe f i (n + 1) = if f i = 0 then fe f (i + 1) n else f i := rfl
    rw [hs] at h
    by_cases hz : f i = 0
    · rw [if_pos hz] at h
      by_cases hj : j = i
      · rw [hj]; exact hz
      · exact fe_each n (i + 1) h j (by omega) (by omega)
    · rw [if_neg hz] at h; exact absurd h hz
theorem chk_each {n : Nw} {l : List Dc} (h : chk n l = 0) {k : Nat} (hk : k < l.length) : dup (l.take k) (ix l k).name = false ∧ ofE (ix l k).offs = 0 := by
  unfold chk at h
  split at h
  · exact absurd h (by decide)
  · have h1 := fe_each l.length 0 h k (by omega) (by omega)
    unfold dv1 at h1
    split at h1
    · exact absurd h1 (by decide)
    · split at h1
      · exact absurd h1 (by decide)
      · rename_i h3
        refine ⟨by simpa using h3, ?_⟩
        unfold one at h1
        split at h1
        · exact absurd h1 (by decide)
        · split at h1
          · exact absurd h1 (by decide)
          · split at h1
            · rename_i h4; exact absurd h1 h4
            · rename_i h4; exact Decidable.not_not.1 h4
theorem dup_each {l : List Dc} {k : Nat} (hk : k < l.length) (h : dup (l.take k) (ix l k).name = false) : ∀ q, q < k → sEq (ix l q).name (ix l k).name = false := fun q hq => by
  rcases fot (sEq (ix l q).name (ix l k).name) with h1 | h1
  · exact h1
  · rw [dup_yes (by omega) hq h1] at h; cases h
theorem of_in {l : List Of} (h : ofE l = 0) : ∀ o ∈ l, -86400 ≤ o.dl ∧ o.dl ≤ 86400 := by
  intro o ho
  obtain ⟨k, hk, he⟩ := mem_ix ho
  have h1 := fe_each l.length 0 h k (by omega) (by omega)
  rw [← he]
  unfold of1 at h1
  split at h1
  · exact absurd h1 (by decide)
  · split at h1
    · exact absurd h1 (by decide)
    · rename_i h3
      simp only [Bool.or_eq_true, decide_eq_true_eq, not_or] at h3
      omega
theorem dl_small {l : List Of} {raw : Int} (hl : ∀ o ∈ l, -86400 ≤ o.dl ∧ o.dl ≤ 86400) : ∀ k, k ≤ l.length → -86400 ≤ dl l raw k ∧ dl l raw k ≤ 86400
  | 0, _ => by show (-86400 : Int) ≤ 0 ∧ (0 : Int) ≤ _; omega
  | k + 1, h => by
    show _ ≤ (if _ then _ else _) ∧ (if _ then _ else _) ≤ _
    split
    · exact hl _ (ix_mem (by omega))
    · exact dl_small hl k (by omega)
theorem isT_f {t : Int} (h : isT t = false) : ¬ (0 ≤ t ∧ t < 68719476736) := fun h2 => by rw [isT_t.2 h2] at h; cases h
theorem clkE {d : Dc} {raw t : Int} {b : Bool} (hl : d.offs.length ≤ 1000) (ho : ∀ o ∈ d.offs, -86400 ≤ o.dl ∧ o.dl ≤ 86400) (he : clk d raw = (t, b)) : Ctr Try.prog 10 [.ag (eDc d), .fl (.int .i64 raw)] (.tu [.fl (.int .i64 t), .fl (.bool b)]) := by
  have := clk10 d raw hl (fun o h => by have := ho o h; omega)
  rw [he] at this; exact this
theorem neq48 (a : Iv) (x y : Operand) (w : World) : (do eqGuard .neq 48 x y (.agg (([.int .i64 a.fr, .int .i64 a.to] : List Value).toArray)) (.agg (([.int .i64 a.fr, .int .i64 a.to] : List Value).toArray)); binOp .neq 48 (.agg (([.int .i64 a.fr, .int .i64 a.to] : List Value).toArray)) (.agg (([.int .i64 a.fr, .int .i64 a.to] : List Value).toArray)) : Sem Value).run Try.prog w = .ok (.bool false) w := by
  have hm : Try.prog.eqGuardType Try.prog.depth 48 = false := by kernel_rfl
  rw [Sem.run_bind, run_eqGuard_agg w .neq 48 x y _ _ hm, Result.andThen_ok, run_neq_struct, eqI48]
  rfl

theorem eqI46 (a : Of) (w : World) : (Op.equalIn 10000 46 (.agg (([.int .i64 a.fr, .int .i64 a.dl] : List Value).toArray)) (.agg (([.int .i64 a.fr, .int .i64 a.dl] : List Value).toArray))).run Try.prog w = .ok true w := by
  have hS : Try.prog.underlying 46 = some (.struct (Try.prog.fieldsOf 46)) := by kernel_rfl
  have hp : Try.prog.stoodInHeld 46 = false := by kernel_rfl
  rw [show (10000 : Nat) = 9999 + 1 from rfl, run_equalIn_agg w 9999 46 _ _ hS hp]
  simp only [Program.fieldsOf, Try.underlying46]
  go_simp
theorem neq46 (a : Of) (x y : Operand) (w : World) : (do eqGuard .neq 46 x y (.agg (([.int .i64 a.fr, .int .i64 a.dl] : List Value).toArray)) (.agg (([.int .i64 a.fr, .int .i64 a.dl] : List Value).toArray)); binOp .neq 46 (.agg (([.int .i64 a.fr, .int .i64 a.dl] : List Value).toArray)) (.agg (([.int .i64 a.fr, .int .i64 a.dl] : List Value).toArray)) : Sem Value).run Try.prog w = .ok (.bool false) w := by
  have hm : Try.prog.eqGuardType Try.prog.depth 46 = false := by kernel_rfl
  rw [Sem.run_bind, run_eqGuard_agg w .neq 46 x y _ _ hm, Result.andThen_ok, run_neq_struct, eqI46]
  rfl
set_option maxHeartbeats 4000000 in
set_option maxRecDepth 100000 in
theorem clo28 (d : Dc) (s : ByteArray) : Ctr Try.prog 28 [.ag (eDc d), .el [.fl (.string s)]] (.d (.fl (.bool (sEq d.name s)))) := by
  refine ctr (n := 8) (rs := #[.tmp 3]) (L := [(0, .d (.ag (eDc d))), (1, .el [.fl (.string s)])]) Try.func28 rfl rfl rfl rfl rfl (fun w0 U0 => ?_)
  refine a_rseq ?_
  refine rg_nam (d := 2) (v := .pt 101 0) (m := 101) (nw := [(101, .bx 36 (eDc d))]) rfl (og rfl (of_eff (op_box 101 rfl rfl rfl rfl) rfl)) rfl ?_
  refine rg_put (d := 3) (v := .d (.fl (.bool false))) rfl (og rfl (op_assign rfl rfl rfl)) ?_
  refine rg_done rfl ?_
  refine a_rseq ?_
  refine rg_put (d := 4) (v := .pt 101 0) rfl (og rfl (of_eff (s_field_pt rfl Try.underlying36 rfl ti9 rfl rfl rfl) rfl)) ?_
  refine rg_put (d := 5) (v := .d (.fl (.string d.name))) rfl (og rfl (op_load_pt rfl Try.underlying9 rfl rfl rfl rfl rfl)) ?_
  refine rg_put (d := 6) (v := .d (.fl (.string s))) rfl (og rfl (op_load_el rfl Try.underlying9 rfl rfl rfl rfl)) ?_
  refine rg_put (d := 7) (v := .d (.fl (.bool (sEq d.name s)))) rfl (og rfl (op_bin rfl rfl rfl (b_seq _ _ _) rfl)) ?_
  refine rg_put (d := 3) (v := .d (.fl (.bool (sEq d.name s)))) rfl (og rfl (op_assign rfl rfl rfl)) ?_
  refine rg_done rfl ?_
  refine a_ret ?_
  show ∃ ds, ResL _ _ _ ds ∧ RV.of ds = _
  refine ⟨[.fl (.bool (sEq d.name s))], (.cons (.tmp rfl (.d _)) .nil), ?_⟩
  rfl
set_option maxHeartbeats 4000000 in
set_option maxRecDepth 100000 in
theorem first27 (l : List Dc) (s : ByteArray) (hl : l.length ≤ 2000) : Ctr Try.prog 27 [.sl 6 (List.map eDc l), .fn 28 [.el [.fl (.string s)]]] (.tu [.ag (eDc (fnE l s).1), .fl (.bool (fnE l s).2)]) := by
  refine ctr (n := 21) (rs := #[.cell 4 36, .tmp 5]) (L := [(0, .d (.sl 6 (List.map eDc l))), (1, .d (.fn 28 [.el [.fl (.string s)]]))]) Try.func27 rfl rfl rfl rfl rfl (fun w0 U0 => ?_)
  refine a_rseq ?_
  refine rg_nam (d := 4) (v := .pt 101 0) (m := 101) (nw := [(101, .bx 36 ([.fl (.string (⟨#[]⟩)), .fl (.string (⟨#[]⟩)), .fl (.int .i64 0), .fl (.int .i64 0), .fl (.slice none 0 0), .fl (.slice none 0 0)]))]) rfl (og rfl (of_eff (s_alloc 101 rfl ti36 (by kernel_rfl) rfl) rfl)) rfl ?_
  refine rg_put (d := 5) (v := .d (.fl (.bool false))) rfl (og rfl (op_assign rfl rfl rfl)) ?_
  refine rg_done rfl ?_
  refine a_seq ?_
  refine a_rseq ?_
  refine rg_put (d := 9) (v := .d (.sl 6 (List.map eDc l))) rfl (og rfl (op_move rfl rfl rfl)) ?_
  refine rg_put (d := 10) (v := .d (.fl (.int .i64 (l.length : Int)))) rfl (og rfl (s_len rfl Try.underlying22 rfl rfl)) ?_
  refine rg_put (d := 11) (v := .d (.fl (.int .i64 0))) rfl (og rfl (op_move rfl rfl rfl)) ?_
  refine rg_done rfl ?_
  refine a_block ?_
  refine a_loop (ι := Nat) (fun k => SS [(0, .d (.sl 6 (List.map eDc l))), (1, .d (.fn 28 [.el [.fl (.string s)]])), (4, .pt 101 0), (9, .d (.sl 6 (List.map eDc l))), (10, .d (.fl (.int .i64 (l.length : Int)))), (11, .d (.fl (.int .i64 (k : Int))))] [(101, .bx 36 ([.fl (.string (⟨#[]⟩)), .fl (.string (⟨#[]⟩)), .fl (.int .i64 0), .fl (.int .i64 0), .fl (.slice none 0 0), .fl (.slice none 0 0)]))]) (fun k => k ≤ l.length ∧ ∀ q, q < k → sEq (ix l q).name s = false) (fun k => l.length - k) 0 (⟨by omega, fun q h => by omega⟩) (imp_forget rfl ⟨rfl, rfl, rfl, rfl, rfl, (by first | rfl | exact ci (by omega) | exact ci (by simp) | exact cd (by simp) | simp), trivial⟩ ⟨rfl, trivial⟩) (fun k hok => ?_)
  obtain ⟨hk, hq⟩ := hok
  refine a_rseq ?_
  refine rg_put (d := 12) (v := .d (.fl (.bool ((decide ((k : Int) < (l.length : Int))))))) rfl (og rfl (op_bin rfl rfl rfl (b_lss _ _ _ _) rfl)) ?_
  refine rg_done rfl ?_
  refine a_seq ?_
  refine a_cond rfl (fun h1 => ?_) (fun h1 => ?_)
  · skip
    have h2 := t_dec h1
    refine a_skip ?_
    show A _ _ _ _ _ _ _
    refine a_seq ?_
    refine a_block ?_
    refine a_rseq ?_
    refine rg_put (d := 13) (v := .el ((eDc (ix l k)))) rfl (og rfl (s_index rfl Try.underlying22 ti36 rfl rfl (by omega) (row_at (by omega)) rfl)) ?_
    refine rg_put (d := 14) (v := .d (.ag (eDc (ix l k)))) rfl (og rfl (of_eff (s_load_els rfl Try.underlying36 rfl ti36 rfl rfl rfl) rfl)) ?_
    refine rg_nam (d := 7) (v := .pt 102 0) (m := 102) (nw := [(102, .bx 36 ([.fl (.string (⟨#[]⟩)), .fl (.string (⟨#[]⟩)), .fl (.int .i64 0), .fl (.int .i64 0), .fl (.slice none 0 0), .fl (.slice none 0 0)]))]) rfl (og rfl (of_eff (s_alloc 102 rfl ti36 (by kernel_rfl) rfl) rfl)) rfl ?_
    refine rg_sto (nw := [(102, .bx 36 ((eDc (ix l k))))]) rfl (og rfl (of_eff (s_store rfl rfl ti36 rfl rfl rfl rfl rfl rfl) rfl)) ?_
    refine rg_done rfl ?_
    refine a_rseq ?_
    refine rg_put (d := 15) (v := .d (.fn 28 [.el [.fl (.string s)]])) rfl (og rfl (op_move rfl rfl rfl)) ?_
    refine rg_put (d := 16) (v := .d (.ag (eDc (ix l k)))) rfl (og rfl (of_eff (s_load_pts rfl Try.underlying36 rfl ti36 rfl rfl rfl rfl) rfl)) ?_
    refine rg_put (d := 17) (v := .d (.fl (.bool ((sEq (ix l k).name s))))) rfl (og rfl (op_callV rfl rfl ⟨_, Try.func28, nm28, rfl⟩ (.cons rfl (.d _) .nil) (clo28 (ix l k) s) rfl)) ?_
    refine rg_done rfl ?_
    refine a_cond rfl (fun h3 => ?_) (fun h3 => ?_)
    · skip
      refine a_rseq ?_
      refine rg_put (d := 18) (v := .d (.ag (eDc (ix l k)))) rfl (og rfl (of_eff (s_load_pts rfl Try.underlying36 rfl ti36 rfl rfl rfl rfl) rfl)) ?_
      refine rg_sto (nw := [(101, .bx 36 ((eDc (ix l k))))]) rfl (og rfl (of_eff (s_store rfl rfl ti36 rfl rfl rfl rfl rfl rfl) rfl)) ?_
      refine rg_put (d := 5) (v := .d (.fl (.bool true))) rfl (og rfl (op_assign rfl rfl rfl)) ?_
      refine rg_done rfl ?_
      refine a_ret ?_
      show ∃ ds, ResL _ _ _ ds ∧ RV.of ds = _
      refine ⟨[.ag [.fl (.string ((ix l k).name)), .fl (.string ((ix l k).point)), .fl (.int .i64 ((ix l k).kind)), .fl (.int .i64 ((ix l k).lane)), .sl 2 (List.map eOf ((ix l k).offs)), .sl 2 (List.map eIv ((ix l k).down))], .fl (.bool true)], (.cons (.cellT rfl rfl Try.underlying36 rfl ti36 rfl (Cv.ag (xs := [.fl (.string ((ix l k).name)), .fl (.string ((ix l k).point)), .fl (.int .i64 ((ix l k).kind)), .fl (.int .i64 ((ix l k).lane)), .sl 2 (List.map eOf ((ix l k).offs)), .sl 2 (List.map eIv ((ix l k).down))]) (ys := [.fl (.string ((ix l k).name)), .fl (.string ((ix l k).point)), .fl (.int .i64 ((ix l k).kind)), .fl (.int .i64 ((ix l k).lane)), .sl 2 (List.map eOf ((ix l k).offs)), .sl 2 (List.map eIv ((ix l k).down))]) ⟨Cv.refl _, Cv.refl _, Cv.refl _, Cv.refl _, Cv.refl _, Cv.refl _, trivial⟩)) (.cons (.tmp rfl (.d _)) .nil)), ?_⟩
      rw [fnE_at (by omega) hq h3]; rfl
    · skip
      refine a_skip ?_
      show A _ _ _ _ _ _ _
      refine a_region ?_
      refine rg_put (d := 19) (v := .d (.fl (.int .i64 (((k : Int) + 1))))) rfl (og rfl (op_bin rfl rfl rfl (fun x y w => b_add64 _ _ _ x y w (by omega)) rfl)) ?_
      refine rg_put (d := 11) (v := .d (.fl (.int .i64 (((k : Int) + 1))))) rfl (og rfl (op_move rfl rfl rfl)) ?_
      refine rg_done rfl ?_
      have hx : sEq (ix l k).name s = false := h3
      show ∃ i, _ ∧ _ ∧ Imp _ _ _ _ _
      refine ⟨k + 1, ⟨by omega, fun q h => (Nat.lt_succ_iff_lt_or_eq.1 h).elim (hq q) (fun e => by rw [e]; exact hx)⟩, by omega, imp_forget rfl ⟨rfl, rfl, rfl, rfl, rfl, (by first | rfl | exact ci (by omega) | exact ci (by simp) | exact cd (by simp) | simp), trivial⟩ ⟨rfl, trivial⟩⟩
  · skip
    have h4 := f_dec h1
    refine a_exit ?_
    show A _ _ _ _ _ _ _
    refine a_rseq ?_
    refine rg_nam (d := 8) (v := .pt 103 0) (m := 103) (nw := [(103, .bx 36 ([.fl (.string (⟨#[]⟩)), .fl (.string (⟨#[]⟩)), .fl (.int .i64 0), .fl (.int .i64 0), .fl (.slice none 0 0), .fl (.slice none 0 0)]))]) rfl (og rfl (of_eff (s_alloc 103 rfl ti36 (by kernel_rfl) rfl) rfl)) rfl ?_
    refine rg_done rfl ?_
    refine a_rseq ?_
    refine rg_put (d := 20) (v := .d (.ag [.fl (.string (⟨#[]⟩)), .fl (.string (⟨#[]⟩)), .fl (.int .i64 0), .fl (.int .i64 0), .fl (.slice none 0 0), .fl (.slice none 0 0)])) rfl (og rfl (of_eff (s_load_pts rfl Try.underlying36 rfl ti36 rfl rfl rfl rfl) rfl)) ?_
    refine rg_sto (nw := [(101, .bx 36 ([.fl (.string (⟨#[]⟩)), .fl (.string (⟨#[]⟩)), .fl (.int .i64 0), .fl (.int .i64 0), .fl (.slice none 0 0), .fl (.slice none 0 0)]))]) rfl (og rfl (of_eff (s_store rfl rfl ti36 rfl rfl rfl rfl rfl rfl) rfl)) ?_
    refine rg_put (d := 5) (v := .d (.fl (.bool false))) rfl (og rfl (op_assign rfl rfl rfl)) ?_
    refine rg_done rfl ?_
    refine a_ret ?_
    show ∃ ds, ResL _ _ _ ds ∧ RV.of ds = _
    refine ⟨[.ag [.fl (.string (⟨#[]⟩)), .fl (.string (⟨#[]⟩)), .fl (.int .i64 0), .fl (.int .i64 0), .sl 2 (List.map eOf []), .sl 2 (List.map eIv [])], .fl (.bool false)], (.cons (.cellT rfl rfl Try.underlying36 rfl ti36 rfl (Cv.ag (xs := [.fl (.string (⟨#[]⟩)), .fl (.string (⟨#[]⟩)), .fl (.int .i64 0), .fl (.int .i64 0), .fl (.slice none 0 0), .fl (.slice none 0 0)]) (ys := [.fl (.string (⟨#[]⟩)), .fl (.string (⟨#[]⟩)), .fl (.int .i64 0), .fl (.int .i64 0), .sl 2 (List.map eOf []), .sl 2 (List.map eIv [])]) ⟨Cv.refl _, Cv.refl _, Cv.refl _, Cv.refl _, Cv.nil _, Cv.nil _, trivial⟩)) (.cons (.tmp rfl (.d _)) .nil)), ?_⟩
    rw [fnE_no (fun q h => hq q (by omega))]; rfl
theorem first27E (l : List Dc) (s : ByteArray) (k : Nat) (hl : l.length ≤ 2000) (hk : k < l.length) (h : ∀ q, q < k → sEq (ix l q).name s = false) (hp : sEq (ix l k).name s = true) : Ctr Try.prog 27 [.sl 6 (List.map eDc l), .fn 28 [.el [.fl (.string s)]]] (.tu [.ag (eDc (ix l k)), .fl (.bool true)]) := by
  have := first27 l s hl
  rw [fnE_at hk h hp] at this; exact this
set_option maxHeartbeats 4000000 in
set_option maxRecDepth 100000 in
theorem find14 (l : List Dc) (s : ByteArray) (k : Nat) (hl : l.length ≤ 2000) (hk : k < l.length) (h : ∀ q, q < k → sEq (ix l q).name s = false) (hp : sEq (ix l k).name s = true) (h1 : (ix l k).offs.length ≤ 1000) (h2 : (ix l k).down.length ≤ 1000) : Ctr Try.prog 14 [.sl 6 (List.map eDc l), .fl (.string s)] (.tu [.ag (eDc (ix l k)), .fl (.bool true)]) := by
  refine ctr (n := 17) (rs := #[.cell 4 36, .tmp 5]) (L := [(0, .d (.sl 6 (List.map eDc l))), (1, .d (.fl (.string s)))]) Try.func14 rfl rfl rfl rfl rfl (fun w0 U0 => ?_)
  refine a_rseq ?_
  refine rg_nam (d := 3) (v := .pt 101 0) (m := 101) (nw := [(101, .bx 9 [.fl (.string s)])]) rfl (og rfl (of_eff (op_box 101 rfl rfl rfl rfl) rfl)) rfl ?_
  refine rg_nam (d := 4) (v := .pt 102 0) (m := 102) (nw := [(102, .bx 36 ([.fl (.string (⟨#[]⟩)), .fl (.string (⟨#[]⟩)), .fl (.int .i64 0), .fl (.int .i64 0), .fl (.slice none 0 0), .fl (.slice none 0 0)]))]) rfl (og rfl (of_eff (s_alloc 102 rfl ti36 (by kernel_rfl) rfl) rfl)) rfl ?_
  refine rg_put (d := 5) (v := .d (.fl (.bool false))) rfl (og rfl (op_assign rfl rfl rfl)) ?_
  refine rg_done rfl ?_
  refine a_rseq ?_
  refine rg_imp (imp_freeze 3 101 rfl rfl) ?_
  refine rg_put (d := 9) (v := .d (.sl 6 (List.map eDc l))) rfl (og rfl (op_move rfl rfl rfl)) ?_
  refine rg_put (d := 10) (v := .d (.fn 28 [.el [.fl (.string s)]])) rfl (og rfl (op_mkfn rfl (.cons rfl .nil) rfl)) ?_
  refine rg_put (d := 11) (v := .tu [.ag (eDc (ix l k)), .fl (.bool true)]) rfl (og rfl (op_call rfl Try.func27 nm27 rfl (.cons rfl (.d _) (.cons rfl (.d _) .nil)) (first27E l s k hl hk h hp) rfl)) ?_
  refine rg_put (d := 8) (v := .tu [.ag (eDc (ix l k)), .fl (.bool true)]) rfl (og rfl (op_move rfl rfl rfl)) ?_
  refine rg_put (d := 12) (v := .d (.ag (eDc (ix l k)))) rfl (og rfl (op_extract rfl rfl rfl rfl)) ?_
  refine rg_put (d := 13) (v := .d (.fl (.bool true))) rfl (og rfl (op_extract rfl rfl rfl rfl)) ?_
  refine rg_nam (d := 6) (v := .pt 103 0) (m := 103) (nw := [(103, .bx 36 ([.fl (.string (⟨#[]⟩)), .fl (.string (⟨#[]⟩)), .fl (.int .i64 0), .fl (.int .i64 0), .fl (.slice none 0 0), .fl (.slice none 0 0)]))]) rfl (og rfl (of_eff (s_alloc 103 rfl ti36 (by kernel_rfl) rfl) rfl)) rfl ?_
  refine rg_sto (nw := [(103, .bx 36 ((eDc (ix l k))))]) rfl (og rfl (of_eff (s_store rfl rfl ti36 rfl rfl rfl rfl rfl rfl) rfl)) ?_
  refine rg_put (d := 7) (v := .d (.fl (.bool true))) rfl (og rfl (op_assign rfl rfl rfl)) ?_
  refine rg_done rfl ?_
  refine a_rseq ?_
  refine rg_put (d := 14) (v := .d (.ag (eDc (ix l k)))) rfl (og rfl (of_eff (s_load_pts rfl Try.underlying36 rfl ti36 rfl rfl rfl rfl) rfl)) ?_
  refine rg_put (d := 15) (v := .d (.ag (eDc (ix l k)))) rfl (og rfl (op_call rfl Try.func29 nm29 rfl (.cons rfl (.d _) .nil) (copy29 (ix l k) h1 h2) rfl)) ?_
  refine rg_put (d := 16) (v := .d (.fl (.bool true))) rfl (og rfl (op_move rfl rfl rfl)) ?_
  refine rg_sto (nw := [(102, .bx 36 ((eDc (ix l k))))]) rfl (og rfl (of_eff (s_store rfl rfl ti36 rfl rfl rfl rfl rfl rfl) rfl)) ?_
  refine rg_put (d := 5) (v := .d (.fl (.bool true))) rfl (og rfl (op_assign rfl rfl rfl)) ?_
  refine rg_done rfl ?_
  refine a_ret ?_
  show ∃ ds, ResL _ _ _ ds ∧ RV.of ds = _
  refine ⟨[.ag [.fl (.string ((ix l k).name)), .fl (.string ((ix l k).point)), .fl (.int .i64 ((ix l k).kind)), .fl (.int .i64 ((ix l k).lane)), .sl 2 (List.map eOf ((ix l k).offs)), .sl 2 (List.map eIv ((ix l k).down))], .fl (.bool true)], (.cons (.cellT rfl rfl Try.underlying36 rfl ti36 rfl (Cv.ag (xs := [.fl (.string ((ix l k).name)), .fl (.string ((ix l k).point)), .fl (.int .i64 ((ix l k).kind)), .fl (.int .i64 ((ix l k).lane)), .sl 2 (List.map eOf ((ix l k).offs)), .sl 2 (List.map eIv ((ix l k).down))]) (ys := [.fl (.string ((ix l k).name)), .fl (.string ((ix l k).point)), .fl (.int .i64 ((ix l k).kind)), .fl (.int .i64 ((ix l k).lane)), .sl 2 (List.map eOf ((ix l k).offs)), .sl 2 (List.map eIv ((ix l k).down))]) ⟨Cv.refl _, Cv.refl _, Cv.refl _, Cv.refl _, Cv.refl _, Cv.refl _, trivial⟩)) (.cons (.tmp rfl (.d _)) .nil)), ?_⟩
  rfl
set_option maxHeartbeats 4000000 in
set_option maxRecDepth 100000 in
theorem same15 (a : Dc) (h1 : a.offs.length ≤ 1000) (h2 : a.down.length ≤ 1000) : Ctr Try.prog 15 [.ag (eDc a), .ag (eDc a)] (.d (.fl (.bool true))) := by
  refine ctr (n := 87) (rs := #[.tmp 4]) (L := [(0, .d (.ag (eDc a))), (1, .d (.ag (eDc a)))]) Try.func15 rfl rfl rfl rfl rfl (fun w0 U0 => ?_)
  refine a_rseq ?_
  refine rg_nam (d := 2) (v := .pt 101 0) (m := 101) (nw := [(101, .bx 36 (eDc a))]) rfl (og rfl (of_eff (op_box 101 rfl rfl rfl rfl) rfl)) rfl ?_
  refine rg_nam (d := 3) (v := .pt 102 0) (m := 102) (nw := [(102, .bx 36 (eDc a))]) rfl (og rfl (of_eff (op_box 102 rfl rfl rfl rfl) rfl)) rfl ?_
  refine rg_put (d := 4) (v := .d (.fl (.bool false))) rfl (og rfl (op_assign rfl rfl rfl)) ?_
  refine rg_done rfl ?_
  refine a_seq ?_
  refine a_rseq ?_
  refine rg_put (d := 7) (v := .pt 101 0) rfl (og rfl (of_eff (s_field_pt rfl Try.underlying36 rfl ti9 rfl rfl rfl) rfl)) ?_
  refine rg_put (d := 8) (v := .d (.fl (.string a.name))) rfl (og rfl (op_load_pt rfl Try.underlying9 rfl rfl rfl rfl rfl)) ?_
  refine rg_put (d := 9) (v := .pt 102 0) rfl (og rfl (of_eff (s_field_pt rfl Try.underlying36 rfl ti9 rfl rfl rfl) rfl)) ?_
  refine rg_put (d := 10) (v := .d (.fl (.string a.name))) rfl (og rfl (op_load_pt rfl Try.underlying9 rfl rfl rfl rfl rfl)) ?_
  refine rg_put (d := 11) (v := .d (.fl (.bool ((!(sEq a.name a.name)))))) rfl (og rfl (op_bin rfl rfl rfl (b_sne _ _ _) rfl)) ?_
  refine rg_put (d := 12) (v := .d (.fl (.bool ((!(sEq a.name a.name)))))) rfl (og rfl (op_move rfl rfl rfl)) ?_
  refine rg_put (d := 13) (v := .pt 101 1) rfl (oy rfl rfl rfl (not_f (eq_self_s _)) (of_eff (s_field_pt rfl Try.underlying36 rfl ti9 rfl rfl rfl) rfl)) ?_
  refine rg_put (d := 14) (v := .d (.fl (.string a.point))) rfl (oy rfl rfl rfl (not_f (eq_self_s _)) (op_load_pt rfl Try.underlying9 rfl rfl rfl rfl rfl)) ?_
  refine rg_put (d := 15) (v := .pt 102 1) rfl (oy rfl rfl rfl (not_f (eq_self_s _)) (of_eff (s_field_pt rfl Try.underlying36 rfl ti9 rfl rfl rfl) rfl)) ?_
  refine rg_put (d := 16) (v := .d (.fl (.string a.point))) rfl (oy rfl rfl rfl (not_f (eq_self_s _)) (op_load_pt rfl Try.underlying9 rfl rfl rfl rfl rfl)) ?_
  refine rg_put (d := 17) (v := .d (.fl (.bool ((!(sEq a.point a.point)))))) rfl (oy rfl rfl rfl (not_f (eq_self_s _)) (op_bin rfl rfl rfl (b_sne _ _ _) rfl)) ?_
  refine rg_put (d := 18) (v := .d (.fl (.bool ((!(sEq a.point a.point)))))) rfl (og rfl (op_pick rfl rfl (by rw [(not_f (eq_self_s _))]; rfl) rfl)) ?_
  refine rg_put (d := 19) (v := .d (.fl (.bool ((!(sEq a.point a.point)))))) rfl (og rfl (op_move rfl rfl rfl)) ?_
  refine rg_put (d := 20) (v := .pt 101 2) rfl (oy rfl rfl rfl (not_f (eq_self_s _)) (of_eff (s_field_pt rfl Try.underlying36 rfl ti3 rfl rfl rfl) rfl)) ?_
  refine rg_put (d := 21) (v := .d (.fl (.int .i64 a.kind))) rfl (oy rfl rfl rfl (not_f (eq_self_s _)) (op_load_pt rfl Try.underlying3 rfl rfl rfl rfl rfl)) ?_
  refine rg_put (d := 22) (v := .pt 102 2) rfl (oy rfl rfl rfl (not_f (eq_self_s _)) (of_eff (s_field_pt rfl Try.underlying36 rfl ti3 rfl rfl rfl) rfl)) ?_
  refine rg_put (d := 23) (v := .d (.fl (.int .i64 a.kind))) rfl (oy rfl rfl rfl (not_f (eq_self_s _)) (op_load_pt rfl Try.underlying3 rfl rfl rfl rfl rfl)) ?_
  refine rg_put (d := 24) (v := .d (.fl (.bool (a.kind != a.kind)))) rfl (oy rfl rfl rfl (not_f (eq_self_s _)) (op_bin rfl rfl rfl (b_neq _ _ _ _) rfl)) ?_
  refine rg_put (d := 25) (v := .d (.fl (.bool (a.kind != a.kind)))) rfl (og rfl (op_pick rfl rfl (by rw [(not_f (eq_self_s _))]; rfl) rfl)) ?_
  refine rg_put (d := 26) (v := .d (.fl (.bool (a.kind != a.kind)))) rfl (og rfl (op_move rfl rfl rfl)) ?_
  refine rg_put (d := 27) (v := .pt 101 3) rfl (oy rfl rfl rfl (ne_self_b _) (of_eff (s_field_pt rfl Try.underlying36 rfl ti3 rfl rfl rfl) rfl)) ?_
  refine rg_put (d := 28) (v := .d (.fl (.int .i64 a.lane))) rfl (oy rfl rfl rfl (ne_self_b _) (op_load_pt rfl Try.underlying3 rfl rfl rfl rfl rfl)) ?_
  refine rg_put (d := 29) (v := .pt 102 3) rfl (oy rfl rfl rfl (ne_self_b _) (of_eff (s_field_pt rfl Try.underlying36 rfl ti3 rfl rfl rfl) rfl)) ?_
  refine rg_put (d := 30) (v := .d (.fl (.int .i64 a.lane))) rfl (oy rfl rfl rfl (ne_self_b _) (op_load_pt rfl Try.underlying3 rfl rfl rfl rfl rfl)) ?_
  refine rg_put (d := 31) (v := .d (.fl (.bool (a.lane != a.lane)))) rfl (oy rfl rfl rfl (ne_self_b _) (op_bin rfl rfl rfl (b_neq _ _ _ _) rfl)) ?_
  refine rg_put (d := 32) (v := .d (.fl (.bool (a.lane != a.lane)))) rfl (og rfl (op_pick rfl rfl (by rw [(ne_self_b _)]; rfl) rfl)) ?_
  refine rg_put (d := 33) (v := .d (.fl (.bool (a.lane != a.lane)))) rfl (og rfl (op_move rfl rfl rfl)) ?_
  refine rg_put (d := 34) (v := .pt 101 4) rfl (oy rfl rfl rfl (ne_self_b _) (of_eff (s_field_pt rfl Try.underlying36 rfl ti33 rfl rfl rfl) rfl)) ?_
  refine rg_put (d := 35) (v := .d (.sl 2 (List.map eOf a.offs))) rfl (oy rfl rfl rfl (ne_self_b _) (op_load_pt rfl Try.underlying33 rfl rfl rfl rfl rfl)) ?_
  refine rg_put (d := 36) (v := .d (.fl (.int .i64 (a.offs.length : Int)))) rfl (oy rfl rfl rfl (ne_self_b _) (s_len rfl Try.underlying33 rfl rfl)) ?_
  refine rg_put (d := 37) (v := .pt 102 4) rfl (oy rfl rfl rfl (ne_self_b _) (of_eff (s_field_pt rfl Try.underlying36 rfl ti33 rfl rfl rfl) rfl)) ?_
  refine rg_put (d := 38) (v := .d (.sl 2 (List.map eOf a.offs))) rfl (oy rfl rfl rfl (ne_self_b _) (op_load_pt rfl Try.underlying33 rfl rfl rfl rfl rfl)) ?_
  refine rg_put (d := 39) (v := .d (.fl (.int .i64 (a.offs.length : Int)))) rfl (oy rfl rfl rfl (ne_self_b _) (s_len rfl Try.underlying33 rfl rfl)) ?_
  refine rg_put (d := 40) (v := .d (.fl (.bool (((a.offs.length : Int) != (a.offs.length : Int)))))) rfl (oy rfl rfl rfl (ne_self_b _) (op_bin rfl rfl rfl (b_neq _ _ _ _) rfl)) ?_
  refine rg_put (d := 41) (v := .d (.fl (.bool (((a.offs.length : Int) != (a.offs.length : Int)))))) rfl (og rfl (op_pick rfl rfl (by rw [(ne_self_b _)]; rfl) rfl)) ?_
  refine rg_put (d := 42) (v := .d (.fl (.bool (((a.offs.length : Int) != (a.offs.length : Int)))))) rfl (og rfl (op_move rfl rfl rfl)) ?_
  refine rg_put (d := 43) (v := .pt 101 5) rfl (oy rfl rfl rfl (ne_self_b _) (of_eff (s_field_pt rfl Try.underlying36 rfl ti34 rfl rfl rfl) rfl)) ?_
  refine rg_put (d := 44) (v := .d (.sl 2 (List.map eIv a.down))) rfl (oy rfl rfl rfl (ne_self_b _) (op_load_pt rfl Try.underlying34 rfl rfl rfl rfl rfl)) ?_
  refine rg_put (d := 45) (v := .d (.fl (.int .i64 (a.down.length : Int)))) rfl (oy rfl rfl rfl (ne_self_b _) (s_len rfl Try.underlying34 rfl rfl)) ?_
  refine rg_put (d := 46) (v := .pt 102 5) rfl (oy rfl rfl rfl (ne_self_b _) (of_eff (s_field_pt rfl Try.underlying36 rfl ti34 rfl rfl rfl) rfl)) ?_
  refine rg_put (d := 47) (v := .d (.sl 2 (List.map eIv a.down))) rfl (oy rfl rfl rfl (ne_self_b _) (op_load_pt rfl Try.underlying34 rfl rfl rfl rfl rfl)) ?_
  refine rg_put (d := 48) (v := .d (.fl (.int .i64 (a.down.length : Int)))) rfl (oy rfl rfl rfl (ne_self_b _) (s_len rfl Try.underlying34 rfl rfl)) ?_
  refine rg_put (d := 49) (v := .d (.fl (.bool (((a.down.length : Int) != (a.down.length : Int)))))) rfl (oy rfl rfl rfl (ne_self_b _) (op_bin rfl rfl rfl (b_neq _ _ _ _) rfl)) ?_
  refine rg_put (d := 50) (v := .d (.fl (.bool (((a.down.length : Int) != (a.down.length : Int)))))) rfl (og rfl (op_pick rfl rfl (by rw [(ne_self_b _)]; rfl) rfl)) ?_
  refine rg_done rfl ?_
  refine a_condF rfl (ne_self_b _) ?_
  refine a_skip ?_
  show A _ _ _ _ _ _ _
  refine a_seq ?_
  refine a_rseq ?_
  refine rg_put (d := 5) (v := .d (.fl (.int .i64 0))) rfl (og rfl (op_assign rfl rfl rfl)) ?_
  refine rg_done rfl ?_
  refine a_block ?_
  refine a_loop (ι := Nat) (fun k => SS [(0, .d (.ag (eDc a))), (1, .d (.ag (eDc a))), (2, .pt 101 0), (3, .pt 102 0), (50, .d (.fl (.bool (((a.down.length : Int) != (a.down.length : Int)))))), (5, .d (.fl (.int .i64 (k : Int))))] [(101, .bx 36 (eDc a)), (102, .bx 36 (eDc a))]) (fun k => k ≤ a.offs.length) (fun k => a.offs.length - k) 0 (by omega) (imp_forget rfl ⟨rfl, rfl, rfl, rfl, rfl, (by first | rfl | exact ci (by omega) | exact ci (by simp) | exact cd (by simp) | simp), trivial⟩ ⟨rfl, rfl, trivial⟩) (fun k hok => ?_)
  have hk := hok
  refine a_seq ?_
  refine a_rseq ?_
  refine rg_put (d := 51) (v := .d (.fl (.int .i64 (k : Int)))) rfl (og rfl (op_move rfl rfl rfl)) ?_
  refine rg_put (d := 52) (v := .pt 101 4) rfl (og rfl (of_eff (s_field_pt rfl Try.underlying36 rfl ti33 rfl rfl rfl) rfl)) ?_
  refine rg_put (d := 53) (v := .d (.sl 2 (List.map eOf a.offs))) rfl (og rfl (op_load_pt rfl Try.underlying33 rfl rfl rfl rfl rfl)) ?_
  refine rg_put (d := 54) (v := .d (.fl (.int .i64 (a.offs.length : Int)))) rfl (og rfl (s_len rfl Try.underlying33 rfl rfl)) ?_
  refine rg_put (d := 55) (v := .d (.fl (.bool ((decide ((k : Int) < (a.offs.length : Int))))))) rfl (og rfl (op_bin rfl rfl rfl (b_lss _ _ _ _) rfl)) ?_
  refine rg_done rfl ?_
  refine a_cond rfl (fun h1 => ?_) (fun h1 => ?_)
  · skip
    have h2 := t_dec h1
    refine a_skip ?_
    show A _ _ _ _ _ _ _
    refine a_seq ?_
    refine a_block ?_
    refine a_dseq (by kernel_rfl) ?_
    refine dr_put (d := 58) (v := .pt 101 4) rfl (og rfl (of_eff (s_field_pt rfl Try.underlying36 rfl ti33 rfl rfl rfl) rfl)) ?_
    refine dr_put (d := 59) (v := .d (.sl 2 (List.map eOf a.offs))) rfl (og rfl (op_load_pt rfl Try.underlying33 rfl rfl rfl rfl rfl)) ?_
    refine dr_put (d := 60) (v := .d (.fl (.int .i64 (k : Int)))) rfl (og rfl (op_move rfl rfl rfl)) ?_
    refine dr_put (d := 61) (v := .el ((eOf (ix a.offs k)))) rfl (og rfl (s_index rfl Try.underlying33 ti46 rfl rfl (by omega) (row_at (by omega)) rfl)) ?_
    refine dr_put (d := 62) (v := .d (.ag (eOf (ix a.offs k)))) rfl (og rfl (of_eff (s_load_els rfl Try.underlying46 rfl ti46 rfl rfl rfl) rfl)) ?_
    refine dr_put (d := 63) (v := .pt 102 4) rfl (og rfl (of_eff (s_field_pt rfl Try.underlying36 rfl ti33 rfl rfl rfl) rfl)) ?_
    refine dr_put (d := 64) (v := .d (.sl 2 (List.map eOf a.offs))) rfl (og rfl (op_load_pt rfl Try.underlying33 rfl rfl rfl rfl rfl)) ?_
    refine dr_put (d := 65) (v := .d (.fl (.int .i64 (k : Int)))) rfl (og rfl (op_move rfl rfl rfl)) ?_
    refine dr_put (d := 66) (v := .el ((eOf (ix a.offs k)))) rfl (og rfl (s_index rfl Try.underlying33 ti46 rfl rfl (by omega) (row_at (by omega)) rfl)) ?_
    refine dr_put (d := 67) (v := .d (.ag (eOf (ix a.offs k)))) rfl (og rfl (of_eff (s_load_els rfl Try.underlying46 rfl ti46 rfl rfl rfl) rfl)) ?_
    refine dr_put (d := 68) (v := .d (.fl (.bool false))) rfl (og rfl (op_eqS [.int .i64 ((ix a.offs k).fr), .int .i64 ((ix a.offs k).dl)] [.int .i64 ((ix a.offs k).fr), .int .i64 ((ix a.offs k).dl)] rfl rfl rfl (b := false) (fun ww => neq46 (ix a.offs k) _ _ ww) rfl)) ?_
    refine dr_done rfl (by kernel_rfl) (by kernel_rfl) ?_
    refine a_condF rfl rfl ?_
    refine a_skip ?_
    show A _ _ _ _ _ _ _
    refine a_region ?_
    refine rg_put (d := 56) (v := .d (.fl (.int .i64 (k : Int)))) rfl (og rfl (op_move rfl rfl rfl)) ?_
    refine rg_put (d := 57) (v := .d (.fl (.int .i64 (((k : Int) + 1))))) rfl (og rfl (op_bin rfl rfl rfl (fun x y w => b_add64 _ _ _ x y w (by omega)) rfl)) ?_
    refine rg_put (d := 5) (v := .d (.fl (.int .i64 (((k : Int) + 1))))) rfl (og rfl (op_assign rfl rfl rfl)) ?_
    refine rg_done rfl ?_
    show ∃ i, _ ∧ _ ∧ Imp _ _ _ _ _
    refine ⟨k + 1, (by omega), by omega, imp_forget rfl ⟨rfl, rfl, rfl, rfl, rfl, (by first | rfl | exact ci (by omega) | exact ci (by simp) | exact cd (by simp) | simp), trivial⟩ ⟨rfl, rfl, trivial⟩⟩
  · skip
    have h3 := f_dec h1
    refine a_exit ?_
    show A _ _ _ _ _ _ _
    refine a_seq ?_
    refine a_rseq ?_
    refine rg_put (d := 6) (v := .d (.fl (.int .i64 0))) rfl (og rfl (op_assign rfl rfl rfl)) ?_
    refine rg_done rfl ?_
    refine a_block ?_
    refine a_loop (ι := Nat) (fun j => SS [(0, .d (.ag (eDc a))), (1, .d (.ag (eDc a))), (2, .pt 101 0), (3, .pt 102 0), (5, .d (.fl (.int .i64 (k : Int)))), (50, .d (.fl (.bool (((a.down.length : Int) != (a.down.length : Int)))))), (55, .d (.fl (.bool ((decide ((k : Int) < (a.offs.length : Int))))))), (6, .d (.fl (.int .i64 (j : Int))))] [(101, .bx 36 (eDc a)), (102, .bx 36 (eDc a))]) (fun j => j ≤ a.down.length) (fun j => a.down.length - j) 0 (by omega) (imp_forget rfl ⟨rfl, rfl, rfl, rfl, rfl, rfl, rfl, (by first | rfl | exact ci (by omega) | exact ci (by simp) | exact cd (by simp) | simp), trivial⟩ ⟨rfl, rfl, trivial⟩) (fun j hok => ?_)
    have hj := hok
    refine a_seq ?_
    refine a_rseq ?_
    refine rg_put (d := 69) (v := .d (.fl (.int .i64 (j : Int)))) rfl (og rfl (op_move rfl rfl rfl)) ?_
    refine rg_put (d := 70) (v := .pt 101 5) rfl (og rfl (of_eff (s_field_pt rfl Try.underlying36 rfl ti34 rfl rfl rfl) rfl)) ?_
    refine rg_put (d := 71) (v := .d (.sl 2 (List.map eIv a.down))) rfl (og rfl (op_load_pt rfl Try.underlying34 rfl rfl rfl rfl rfl)) ?_
    refine rg_put (d := 72) (v := .d (.fl (.int .i64 (a.down.length : Int)))) rfl (og rfl (s_len rfl Try.underlying34 rfl rfl)) ?_
    refine rg_put (d := 73) (v := .d (.fl (.bool ((decide ((j : Int) < (a.down.length : Int))))))) rfl (og rfl (op_bin rfl rfl rfl (b_lss _ _ _ _) rfl)) ?_
    refine rg_done rfl ?_
    refine a_cond rfl (fun h4 => ?_) (fun h4 => ?_)
    · skip
      have h5 := t_dec h4
      refine a_skip ?_
      show A _ _ _ _ _ _ _
      refine a_seq ?_
      refine a_block ?_
      refine a_dseq (by kernel_rfl) ?_
      refine dr_put (d := 76) (v := .pt 101 5) rfl (og rfl (of_eff (s_field_pt rfl Try.underlying36 rfl ti34 rfl rfl rfl) rfl)) ?_
      refine dr_put (d := 77) (v := .d (.sl 2 (List.map eIv a.down))) rfl (og rfl (op_load_pt rfl Try.underlying34 rfl rfl rfl rfl rfl)) ?_
      refine dr_put (d := 78) (v := .d (.fl (.int .i64 (j : Int)))) rfl (og rfl (op_move rfl rfl rfl)) ?_
      refine dr_put (d := 79) (v := .el ((eIv (ix a.down j)))) rfl (og rfl (s_index rfl Try.underlying34 ti48 rfl rfl (by omega) (row_at (by omega)) rfl)) ?_
      refine dr_put (d := 80) (v := .d (.ag (eIv (ix a.down j)))) rfl (og rfl (of_eff (s_load_els rfl Try.underlying48 rfl ti48 rfl rfl rfl) rfl)) ?_
      refine dr_put (d := 81) (v := .pt 102 5) rfl (og rfl (of_eff (s_field_pt rfl Try.underlying36 rfl ti34 rfl rfl rfl) rfl)) ?_
      refine dr_put (d := 82) (v := .d (.sl 2 (List.map eIv a.down))) rfl (og rfl (op_load_pt rfl Try.underlying34 rfl rfl rfl rfl rfl)) ?_
      refine dr_put (d := 83) (v := .d (.fl (.int .i64 (j : Int)))) rfl (og rfl (op_move rfl rfl rfl)) ?_
      refine dr_put (d := 84) (v := .el ((eIv (ix a.down j)))) rfl (og rfl (s_index rfl Try.underlying34 ti48 rfl rfl (by omega) (row_at (by omega)) rfl)) ?_
      refine dr_put (d := 85) (v := .d (.ag (eIv (ix a.down j)))) rfl (og rfl (of_eff (s_load_els rfl Try.underlying48 rfl ti48 rfl rfl rfl) rfl)) ?_
      refine dr_put (d := 86) (v := .d (.fl (.bool false))) rfl (og rfl (op_eqS [.int .i64 ((ix a.down j).fr), .int .i64 ((ix a.down j).to)] [.int .i64 ((ix a.down j).fr), .int .i64 ((ix a.down j).to)] rfl rfl rfl (b := false) (fun ww => neq48 (ix a.down j) _ _ ww) rfl)) ?_
      refine dr_done rfl (by kernel_rfl) (by kernel_rfl) ?_
      refine a_condF rfl rfl ?_
      refine a_skip ?_
      show A _ _ _ _ _ _ _
      refine a_region ?_
      refine rg_put (d := 74) (v := .d (.fl (.int .i64 (j : Int)))) rfl (og rfl (op_move rfl rfl rfl)) ?_
      refine rg_put (d := 75) (v := .d (.fl (.int .i64 (((j : Int) + 1))))) rfl (og rfl (op_bin rfl rfl rfl (fun x y w => b_add64 _ _ _ x y w (by omega)) rfl)) ?_
      refine rg_put (d := 6) (v := .d (.fl (.int .i64 (((j : Int) + 1))))) rfl (og rfl (op_assign rfl rfl rfl)) ?_
      refine rg_done rfl ?_
      show ∃ i, _ ∧ _ ∧ Imp _ _ _ _ _
      refine ⟨j + 1, (by omega), by omega, imp_forget rfl ⟨rfl, rfl, rfl, rfl, rfl, rfl, rfl, (by first | rfl | exact ci (by omega) | exact ci (by simp) | exact cd (by simp) | simp), trivial⟩ ⟨rfl, rfl, trivial⟩⟩
    · skip
      have h6 := f_dec h4
      refine a_exit ?_
      show A _ _ _ _ _ _ _
      refine a_rseq ?_
      refine rg_put (d := 4) (v := .d (.fl (.bool true))) rfl (og rfl (op_assign rfl rfl rfl)) ?_
      refine rg_done rfl ?_
      refine a_ret ?_
      show ∃ ds, ResL _ _ _ ds ∧ RV.of ds = _
      refine ⟨[.fl (.bool true)], (.cons (.tmp rfl (.d _)) .nil), ?_⟩
      rfl
set_option maxHeartbeats 4000000 in
set_option maxRecDepth 100000 in
theorem law5 (l : List Dc) (n : Nw) (raw : Int) : Ctr Try.prog 5 [.sl 6 (List.map eDc l), .ag (eNw n), .fl (.int .i64 raw)] (.d (.fl (.bool true))) := by
  refine ctr (n := 101) (rs := #[.tmp 6]) (L := [(0, .d (.sl 6 (List.map eDc l))), (1, .d (.ag (eNw n))), (2, .d (.fl (.int .i64 raw)))]) Try.func5 rfl rfl rfl rfl rfl (fun w0 U0 => ?_)
  refine a_rseq ?_
  refine rg_nam (d := 4) (v := .pt 101 0) (m := 101) (nw := [(101, .bx 26 (eNw n))]) rfl (og rfl (of_eff (op_box 101 rfl rfl rfl rfl) rfl)) rfl ?_
  refine rg_put (d := 6) (v := .d (.fl (.bool false))) rfl (og rfl (op_assign rfl rfl rfl)) ?_
  refine rg_done rfl ?_
  refine a_seq ?_
  refine a_rseq ?_
  refine rg_put (d := 13) (v := .d (.sl 6 (List.map eDc l))) rfl (og rfl (op_move rfl rfl rfl)) ?_
  refine rg_put (d := 14) (v := .d (.fl (.bool (grt l)))) rfl (og rfl (op_call rfl Try.func6 nm6 rfl (.cons rfl (.d _) .nil) (grt6 l) rfl)) ?_
  refine rg_put (d := 15) (v := .d (.fl (.bool (grt l)))) rfl (og rfl (op_move rfl rfl rfl)) ?_
  rcases fot (grt l) with h1 | h1
  · skip
    refine rg_put (d := 16) (v := .pt 101 0) rfl (oy rfl rfl rfl h1 (of_eff (s_field_pt rfl Try.underlying26 rfl ti23 rfl rfl rfl) rfl)) ?_
    refine rg_put (d := 17) (v := .d (.sl 3 (List.map ePn n.points))) rfl (oy rfl rfl rfl h1 (op_load_pt rfl Try.underlying23 rfl rfl rfl rfl rfl)) ?_
    refine rg_put (d := 18) (v := .d (.fl (.int .i64 (n.points.length : Int)))) rfl (oy rfl rfl rfl h1 (s_len rfl Try.underlying23 rfl rfl)) ?_
    refine rg_put (d := 19) (v := .d (.fl (.bool ((decide (200 < (n.points.length : Int))))))) rfl (oy rfl rfl rfl h1 (op_bin rfl rfl rfl (b_gtr _ _ _ _) rfl)) ?_
    refine rg_put (d := 20) (v := .d (.fl (.bool ((decide (200 < (n.points.length : Int))))))) rfl (og rfl (op_pick rfl rfl (by rw [h1]; rfl) rfl)) ?_
    refine rg_put (d := 21) (v := .d (.fl (.bool ((decide (200 < (n.points.length : Int))))))) rfl (og rfl (op_move rfl rfl rfl)) ?_
    rcases fot ((decide (200 < (n.points.length : Int)))) with h2 | h2
    · skip
      have h3 := f_dec h2
      refine rg_put (d := 22) (v := .d (.sl 6 (List.map eDc l))) rfl (oy rfl rfl rfl h2 (op_move rfl rfl rfl)) ?_
      refine rg_put (d := 23) (v := .d (.ag (eNw n))) rfl (oy rfl rfl rfl h2 (of_eff (s_load_pts rfl Try.underlying26 rfl ti26 rfl rfl rfl rfl) rfl)) ?_
      refine rg_put (d := 24) (v := .d (.fl (.int .i64 (chk n l)))) rfl (oy rfl rfl rfl h2 (op_call rfl Try.func8 nm8 rfl (.cons rfl (.d _) (.cons rfl (.d _) .nil)) (chkA8 l n (by have := (grt_len h1).1; omega) (by omega) (grt_len h1).2) rfl)) ?_
      refine rg_put (d := 25) (v := .d (.fl (.bool (((chk n l) != 0))))) rfl (oy rfl rfl rfl h2 (op_bin rfl rfl rfl (b_neq _ _ _ _) rfl)) ?_
      refine rg_put (d := 26) (v := .d (.fl (.bool (((chk n l) != 0))))) rfl (og rfl (op_pick rfl rfl (by rw [h2]; rfl) rfl)) ?_
      refine rg_done rfl ?_
      refine a_cond rfl (fun h4 => ?_) (fun h4 => ?_)
      · skip
        have h5 := t_bne h4
        refine a_rseq ?_
        refine rg_put (d := 27) (v := .d (.fl (.bool true))) rfl (og rfl (op_call rfl Try.func7 nm7 rfl .nil awake7 rfl)) ?_
        refine rg_put (d := 6) (v := .d (.fl (.bool true))) rfl (og rfl (op_assign rfl rfl rfl)) ?_
        refine rg_done rfl ?_
        refine a_ret ?_
        show ∃ ds, ResL _ _ _ ds ∧ RV.of ds = _
        refine ⟨[.fl (.bool true)], (.cons (.tmp rfl (.d _)) .nil), ?_⟩
        rfl
      · skip
        have h6 := f_bne h4
        refine a_skip ?_
        show A _ _ _ _ _ _ _
        refine a_seq ?_
        refine a_rseq ?_
        have hg := grt_len h1
        have hz := hg.2
        have hgl := hg.1
        have hch : chk n l = 0 := f_bne h4
        refine rg_put (d := 28) (v := .d (.sl 6 (List.map eDc l))) rfl (og rfl (op_move rfl rfl rfl)) ?_
        refine rg_put (d := 29) (v := .d (.fl (.int .i64 (l.length : Int)))) rfl (og rfl (s_len rfl Try.underlying22 rfl rfl)) ?_
        refine rg_put (d := 30) (v := .d (.fl (.int .i64 0))) rfl (og rfl (op_move rfl rfl rfl)) ?_
        refine rg_done rfl ?_
        refine a_block ?_
        refine a_loop (ι := Nat) (fun k => SS [(0, .d (.sl 6 (List.map eDc l))), (1, .d (.ag (eNw n))), (2, .d (.fl (.int .i64 raw))), (4, .pt 101 0), (26, .d (.fl (.bool (((chk n l) != 0))))), (28, .d (.sl 6 (List.map eDc l))), (29, .d (.fl (.int .i64 (l.length : Int)))), (30, .d (.fl (.int .i64 (k : Int))))] [(101, .bx 26 (eNw n))]) (fun k => k ≤ l.length) (fun k => l.length - k) 0 (by omega) (imp_forget rfl ⟨rfl, rfl, rfl, rfl, rfl, rfl, rfl, (by first | rfl | exact ci (by omega) | exact ci (by simp) | exact cd (by simp) | simp), trivial⟩ ⟨rfl, trivial⟩) (fun k hok => ?_)
        have hk := hok
        refine a_rseq ?_
        refine rg_put (d := 31) (v := .d (.fl (.bool ((decide ((k : Int) < (l.length : Int))))))) rfl (og rfl (op_bin rfl rfl rfl (b_lss _ _ _ _) rfl)) ?_
        refine rg_done rfl ?_
        refine a_seq ?_
        refine a_cond rfl (fun h7 => ?_) (fun h7 => ?_)
        · skip
          have h8 := t_dec h7
          refine a_skip ?_
          show A _ _ _ _ _ _ _
          refine a_seq ?_
          refine a_block ?_
          refine a_rseq ?_
          refine rg_put (d := 32) (v := .el ((eDc (ix l k)))) rfl (og rfl (s_index rfl Try.underlying22 ti36 rfl rfl (by omega) (row_at (by omega)) rfl)) ?_
          refine rg_put (d := 33) (v := .d (.ag (eDc (ix l k)))) rfl (og rfl (of_eff (s_load_els rfl Try.underlying36 rfl ti36 rfl rfl rfl) rfl)) ?_
          refine rg_nam (d := 8) (v := .pt 102 0) (m := 102) (nw := [(102, .bx 36 ([.fl (.string (⟨#[]⟩)), .fl (.string (⟨#[]⟩)), .fl (.int .i64 0), .fl (.int .i64 0), .fl (.slice none 0 0), .fl (.slice none 0 0)]))]) rfl (og rfl (of_eff (s_alloc 102 rfl ti36 (by kernel_rfl) rfl) rfl)) rfl ?_
          refine rg_sto (nw := [(102, .bx 36 ((eDc (ix l k))))]) rfl (og rfl (of_eff (s_store rfl rfl ti36 rfl rfl rfl rfl rfl rfl) rfl)) ?_
          refine rg_done rfl ?_
          refine a_rseq ?_
          have hz1 := (hz k (by omega)).1
          have hz2 := (hz k (by omega)).2
          have hce := chk_each hch (k := k) (by omega)
          have ho := of_in hce.2
          have hdq := dup_each (by omega) hce.1
          have hds := dl_small (raw := raw) ho _ (Nat.le_refl _)
          refine rg_put (d := 35) (v := .d (.ag (eDc (ix l k)))) rfl (og rfl (of_eff (s_load_pts rfl Try.underlying36 rfl ti36 rfl rfl rfl rfl) rfl)) ?_
          refine rg_put (d := 36) (v := .d (.fl (.int .i64 raw))) rfl (og rfl (op_move rfl rfl rfl)) ?_
          rcases fot (isT raw) with h9 | h9
          · skip
            refine rg_put (d := 37) (v := .tu [.fl (.int .i64 0), .fl (.bool false)]) rfl (og rfl (op_call rfl Try.func10 nm10 rfl (.cons rfl (.d _) (.cons rfl (.d _) .nil)) (clkE hz1 ho (clk_raw h9)) rfl)) ?_
            refine rg_put (d := 34) (v := .tu [.fl (.int .i64 0), .fl (.bool false)]) rfl (og rfl (op_move rfl rfl rfl)) ?_
            refine rg_put (d := 38) (v := .d (.fl (.int .i64 0))) rfl (og rfl (op_extract rfl rfl rfl rfl)) ?_
            refine rg_put (d := 39) (v := .d (.fl (.bool false))) rfl (og rfl (op_extract rfl rfl rfl rfl)) ?_
            refine rg_put (d := 9) (v := .d (.fl (.int .i64 0))) rfl (og rfl (op_assign rfl rfl rfl)) ?_
            refine rg_put (d := 10) (v := .d (.fl (.bool false))) rfl (og rfl (op_assign rfl rfl rfl)) ?_
            refine rg_done rfl ?_
            refine a_seq ?_
            refine a_rseq ?_
            have hr := isT_f h9
            refine rg_put (d := 40) (v := .d (.fl (.int .i64 raw))) rfl (og rfl (op_move rfl rfl rfl)) ?_
            refine rg_put (d := 41) (v := .d (.fl (.bool ((decide (raw < 0)))))) rfl (og rfl (op_bin rfl rfl rfl (b_lss _ _ _ _) rfl)) ?_
            refine rg_put (d := 42) (v := .d (.fl (.bool ((decide (raw < 0)))))) rfl (og rfl (op_move rfl rfl rfl)) ?_
            rcases fot ((decide (raw < 0))) with h10 | h10
            · skip
              have h11 := f_dec h10
              refine rg_put (d := 43) (v := .d (.fl (.int .i64 raw))) rfl (oy rfl rfl rfl h10 (op_move rfl rfl rfl)) ?_
              refine rg_put (d := 44) (v := .d (.fl (.bool ((decide (68719476736 ≤ raw)))))) rfl (oy rfl rfl rfl h10 (op_bin rfl rfl rfl (b_geq _ _ _ _) rfl)) ?_
              refine rg_put (d := 45) (v := .d (.fl (.bool ((decide (68719476736 ≤ raw)))))) rfl (og rfl (op_pick rfl rfl (by rw [h10]; rfl) rfl)) ?_
              refine rg_done rfl ?_
              refine a_cond rfl (fun h12 => ?_) (fun h12 => ?_)
              · skip
                have h13 := t_dec h12
                refine a_seq ?_
                refine a_rseq ?_
                refine rg_put (d := 46) (v := .d (.fl (.bool false))) rfl (og rfl (op_move rfl rfl rfl)) ?_
                refine rg_put (d := 47) (v := .d (.fl (.bool false))) rfl (og rfl (op_move rfl rfl rfl)) ?_
                refine rg_put (d := 48) (v := .d (.fl (.int .i64 0))) rfl (oy rfl rfl rfl rfl (op_move rfl rfl rfl)) ?_
                refine rg_put (d := 49) (v := .d (.fl (.bool (0 != 0)))) rfl (oy rfl rfl rfl rfl (op_bin rfl rfl rfl (b_neq _ _ _ _) rfl)) ?_
                refine rg_put (d := 50) (v := .d (.fl (.bool (0 != 0)))) rfl (og rfl (op_pick rfl rfl rfl rfl)) ?_
                refine rg_done rfl ?_
                refine a_condF rfl (ne_self_b _) ?_
                refine a_skip ?_
                show A _ _ _ _ _ _ _
                refine a_exit ?_
                show A _ _ _ _ _ _ _
                refine a_region ?_
                refine rg_put (d := 99) (v := .d (.fl (.int .i64 (((k : Int) + 1))))) rfl (og rfl (op_bin rfl rfl rfl (fun x y w => b_add64 _ _ _ x y w (by omega)) rfl)) ?_
                refine rg_put (d := 30) (v := .d (.fl (.int .i64 (((k : Int) + 1))))) rfl (og rfl (op_move rfl rfl rfl)) ?_
                refine rg_done rfl ?_
                show ∃ i, _ ∧ _ ∧ Imp _ _ _ _ _
                refine ⟨k + 1, (by omega), by omega, imp_forget rfl ⟨rfl, rfl, rfl, rfl, rfl, rfl, rfl, (by first | rfl | exact ci (by omega) | exact ci (by simp) | exact cd (by simp) | simp), trivial⟩ ⟨rfl, trivial⟩⟩
              · skip
                have h14 := f_dec h12
                refine a_skip ?_
                show A _ _ _ _ _ _ _
                refine a_seq ?_
                refine a_rseq ?_
                refine rg_put (d := 51) (v := .d (.fl (.bool false))) rfl (og rfl (op_move rfl rfl rfl)) ?_
                refine rg_put (d := 52) (v := .d (.fl (.bool false))) rfl (og rfl (op_move rfl rfl rfl)) ?_
                refine rg_put (d := 53) (v := .d (.fl undef)) rfl (on rfl rfl rfl rfl) ?_
                refine rg_put (d := 54) (v := .d (.fl undef)) rfl (on rfl rfl rfl rfl) ?_
                refine rg_put (d := 55) (v := .d (.fl undef)) rfl (on rfl rfl rfl rfl) ?_
                refine rg_put (d := 56) (v := .d (.fl undef)) rfl (ou rfl rfl rfl) ?_
                refine rg_put (d := 57) (v := .d (.fl undef)) rfl (ou rfl rfl rfl) ?_
                refine rg_put (d := 58) (v := .d (.fl undef)) rfl (on rfl rfl rfl rfl) ?_
                refine rg_put (d := 59) (v := .d (.fl undef)) rfl (on rfl rfl rfl rfl) ?_
                refine rg_put (d := 60) (v := .d (.fl undef)) rfl (ou rfl rfl rfl) ?_
                refine rg_put (d := 61) (v := .d (.fl undef)) rfl (ou rfl rfl rfl) ?_
                refine rg_put (d := 62) (v := .d (.fl undef)) rfl (ou rfl rfl rfl) ?_
                refine rg_put (d := 63) (v := .d (.fl undef)) rfl (ou rfl rfl rfl) ?_
                refine rg_put (d := 64) (v := .d (.fl undef)) rfl (on rfl rfl rfl rfl) ?_
                refine rg_put (d := 65) (v := .d (.fl undef)) rfl (on rfl rfl rfl rfl) ?_
                refine rg_put (d := 66) (v := .d (.fl undef)) rfl (ou rfl rfl rfl) ?_
                refine rg_put (d := 67) (v := .d (.fl undef)) rfl (ou rfl rfl rfl) ?_
                refine rg_put (d := 68) (v := .d (.fl undef)) rfl (ou rfl rfl rfl) ?_
                refine rg_put (d := 69) (v := .d (.fl undef)) rfl (ou rfl rfl rfl) ?_
                refine rg_put (d := 70) (v := .d (.fl undef)) rfl (on rfl rfl rfl rfl) ?_
                refine rg_put (d := 71) (v := .d (.fl (.bool false))) rfl (og rfl (op_pick rfl rfl rfl rfl)) ?_
                refine rg_put (d := 72) (v := .d (.fl (.bool false))) rfl (og rfl (op_move rfl rfl rfl)) ?_
                refine rg_put (d := 73) (v := .d (.fl (.bool false))) rfl (oy rfl rfl rfl rfl (op_move rfl rfl rfl)) ?_
                refine rg_put (d := 74) (v := .d (.fl (.bool (!false)))) rfl (oy rfl rfl rfl rfl (op_un rfl rfl (u_not _) rfl)) ?_
                refine rg_put (d := 75) (v := .d (.fl (.bool (!false)))) rfl (oy rfl rfl rfl rfl (op_move rfl rfl rfl)) ?_
                refine rg_put (d := 76) (v := .d (.fl (.int .i64 raw))) rfl (oy rfl rfl rfl rfl (op_move rfl rfl rfl)) ?_
                refine rg_put (d := 77) (v := .d (.fl (.bool ((decide (86400 ≤ raw)))))) rfl (oy rfl rfl rfl rfl (op_bin rfl rfl rfl (b_geq _ _ _ _) rfl)) ?_
                refine rg_put (d := 78) (v := .d (.fl (.bool ((decide (86400 ≤ raw)))))) rfl (oy rfl rfl rfl rfl (op_pick rfl rfl rfl rfl)) ?_
                refine rg_put (d := 79) (v := .d (.fl (.bool ((decide (86400 ≤ raw)))))) rfl (oy rfl rfl rfl rfl (op_move rfl rfl rfl)) ?_
                rcases fot ((decide (86400 ≤ raw))) with h15 | h15
                · skip
                  have h16 := f_dec h15
                  refine rg_put (d := 80) (v := .d (.fl undef)) rfl (on rfl rfl rfl h15) ?_
                  refine rg_put (d := 81) (v := .d (.fl undef)) rfl (on rfl rfl rfl h15) ?_
                  refine rg_put (d := 82) (v := .d (.fl (.bool false))) rfl (oy rfl rfl rfl rfl (op_pick rfl rfl (by rw [h15]; rfl) rfl)) ?_
                  refine rg_put (d := 83) (v := .d (.fl (.bool false))) rfl (og rfl (op_pick rfl rfl rfl rfl)) ?_
                  refine rg_done rfl ?_
                  refine a_condF rfl rfl ?_
                  refine a_skip ?_
                  show A _ _ _ _ _ _ _
                  refine a_rseq ?_
                  refine rg_put (d := 85) (v := .d (.sl 6 (List.map eDc l))) rfl (og rfl (op_move rfl rfl rfl)) ?_
                  refine rg_put (d := 86) (v := .pt 102 0) rfl (og rfl (of_eff (s_field_pt rfl Try.underlying36 rfl ti9 rfl rfl rfl) rfl)) ?_
                  refine rg_put (d := 87) (v := .d (.fl (.string ((ix l k).name)))) rfl (og rfl (op_load_pt rfl Try.underlying9 rfl rfl rfl rfl rfl)) ?_
                  refine rg_put (d := 88) (v := .tu [.ag (eDc (ix l k)), .fl (.bool true)]) rfl (og rfl (op_call rfl Try.func14 nm14 rfl (.cons rfl (.d _) (.cons rfl (.d _) .nil)) (find14 l (ix l k).name k (by omega) (by omega) hdq (eq_self_s _) hz1 hz2) rfl)) ?_
                  refine rg_put (d := 84) (v := .tu [.ag (eDc (ix l k)), .fl (.bool true)]) rfl (og rfl (op_move rfl rfl rfl)) ?_
                  refine rg_put (d := 89) (v := .d (.ag (eDc (ix l k)))) rfl (og rfl (op_extract rfl rfl rfl rfl)) ?_
                  refine rg_put (d := 90) (v := .d (.fl (.bool true))) rfl (og rfl (op_extract rfl rfl rfl rfl)) ?_
                  refine rg_nam (d := 11) (v := .pt 103 0) (m := 103) (nw := [(103, .bx 36 ([.fl (.string (⟨#[]⟩)), .fl (.string (⟨#[]⟩)), .fl (.int .i64 0), .fl (.int .i64 0), .fl (.slice none 0 0), .fl (.slice none 0 0)]))]) rfl (og rfl (of_eff (s_alloc 103 rfl ti36 (by kernel_rfl) rfl) rfl)) rfl ?_
                  refine rg_sto (nw := [(103, .bx 36 ((eDc (ix l k))))]) rfl (og rfl (of_eff (s_store rfl rfl ti36 rfl rfl rfl rfl rfl rfl) rfl)) ?_
                  refine rg_put (d := 12) (v := .d (.fl (.bool true))) rfl (og rfl (op_assign rfl rfl rfl)) ?_
                  refine rg_done rfl ?_
                  refine a_rseq ?_
                  refine rg_put (d := 91) (v := .d (.fl (.bool true))) rfl (og rfl (op_move rfl rfl rfl)) ?_
                  refine rg_put (d := 92) (v := .d (.fl (.bool (!true)))) rfl (og rfl (op_un rfl rfl (u_not _) rfl)) ?_
                  refine rg_put (d := 93) (v := .d (.fl (.bool (!true)))) rfl (og rfl (op_move rfl rfl rfl)) ?_
                  refine rg_put (d := 94) (v := .d (.ag (eDc (ix l k)))) rfl (oy rfl rfl rfl rfl (of_eff (s_load_pts rfl Try.underlying36 rfl ti36 rfl rfl rfl rfl) rfl)) ?_
                  refine rg_put (d := 95) (v := .d (.ag (eDc (ix l k)))) rfl (oy rfl rfl rfl rfl (of_eff (s_load_pts rfl Try.underlying36 rfl ti36 rfl rfl rfl rfl) rfl)) ?_
                  refine rg_put (d := 96) (v := .d (.fl (.bool true))) rfl (oy rfl rfl rfl rfl (op_call rfl Try.func15 nm15 rfl (.cons rfl (.d _) (.cons rfl (.d _) .nil)) (same15 (ix l k) hz1 hz2) rfl)) ?_
                  refine rg_put (d := 97) (v := .d (.fl (.bool (!true)))) rfl (oy rfl rfl rfl rfl (op_un rfl rfl (u_not _) rfl)) ?_
                  refine rg_put (d := 98) (v := .d (.fl (.bool (!true)))) rfl (og rfl (op_pick rfl rfl rfl rfl)) ?_
                  refine rg_done rfl ?_
                  refine a_condF rfl rfl ?_
                  refine a_skip ?_
                  show A _ _ _ _ _ _ _
                  refine a_region ?_
                  refine rg_put (d := 99) (v := .d (.fl (.int .i64 (((k : Int) + 1))))) rfl (og rfl (op_bin rfl rfl rfl (fun x y w => b_add64 _ _ _ x y w (by omega)) rfl)) ?_
                  refine rg_put (d := 30) (v := .d (.fl (.int .i64 (((k : Int) + 1))))) rfl (og rfl (op_move rfl rfl rfl)) ?_
                  refine rg_done rfl ?_
                  show ∃ i, _ ∧ _ ∧ Imp _ _ _ _ _
                  refine ⟨k + 1, (by omega), by omega, imp_forget rfl ⟨rfl, rfl, rfl, rfl, rfl, rfl, rfl, (by first | rfl | exact ci (by omega) | exact ci (by simp) | exact cd (by simp) | simp), trivial⟩ ⟨rfl, trivial⟩⟩
                · skip
                  have h17 := t_dec h15
                  refine rg_put (d := 80) (v := .d (.fl (.int .i64 raw))) rfl (oy rfl rfl rfl h15 (op_move rfl rfl rfl)) ?_
                  refine rg_put (d := 81) (v := .d (.fl (.bool ((decide (raw < 68719390336)))))) rfl (oy rfl rfl rfl h15 (op_bin rfl rfl rfl (b_lss _ _ _ _) rfl)) ?_
                  refine rg_put (d := 82) (v := .d (.fl (.bool ((decide (raw < 68719390336)))))) rfl (oy rfl rfl rfl rfl (op_pick rfl rfl (by rw [h15]; rfl) rfl)) ?_
                  refine rg_put (d := 83) (v := .d (.fl (.bool ((decide (raw < 68719390336)))))) rfl (og rfl (op_pick rfl rfl rfl rfl)) ?_
                  refine rg_done rfl ?_
                  refine a_cond rfl (fun h18 => ?_) (fun h18 => ?_)
                  · skip
                    have h19 := t_dec h18
                    refine a_rseq ?_
                    refine rg_put (d := 6) (v := .d (.fl (.bool false))) rfl (og rfl (op_assign rfl rfl rfl)) ?_
                    refine rg_done rfl ?_
                    refine a_ret ?_
                    show ∃ ds, ResL _ _ _ ds ∧ RV.of ds = _
                    refine ⟨[.fl (.bool false)], (.cons (.tmp rfl (.d _)) .nil), ?_⟩
                    exfalso; omega
                  · skip
                    have h20 := f_dec h18
                    refine a_skip ?_
                    show A _ _ _ _ _ _ _
                    refine a_rseq ?_
                    refine rg_put (d := 85) (v := .d (.sl 6 (List.map eDc l))) rfl (og rfl (op_move rfl rfl rfl)) ?_
                    refine rg_put (d := 86) (v := .pt 102 0) rfl (og rfl (of_eff (s_field_pt rfl Try.underlying36 rfl ti9 rfl rfl rfl) rfl)) ?_
                    refine rg_put (d := 87) (v := .d (.fl (.string ((ix l k).name)))) rfl (og rfl (op_load_pt rfl Try.underlying9 rfl rfl rfl rfl rfl)) ?_
                    refine rg_put (d := 88) (v := .tu [.ag (eDc (ix l k)), .fl (.bool true)]) rfl (og rfl (op_call rfl Try.func14 nm14 rfl (.cons rfl (.d _) (.cons rfl (.d _) .nil)) (find14 l (ix l k).name k (by omega) (by omega) hdq (eq_self_s _) hz1 hz2) rfl)) ?_
                    refine rg_put (d := 84) (v := .tu [.ag (eDc (ix l k)), .fl (.bool true)]) rfl (og rfl (op_move rfl rfl rfl)) ?_
                    refine rg_put (d := 89) (v := .d (.ag (eDc (ix l k)))) rfl (og rfl (op_extract rfl rfl rfl rfl)) ?_
                    refine rg_put (d := 90) (v := .d (.fl (.bool true))) rfl (og rfl (op_extract rfl rfl rfl rfl)) ?_
                    refine rg_nam (d := 11) (v := .pt 104 0) (m := 104) (nw := [(104, .bx 36 ([.fl (.string (⟨#[]⟩)), .fl (.string (⟨#[]⟩)), .fl (.int .i64 0), .fl (.int .i64 0), .fl (.slice none 0 0), .fl (.slice none 0 0)]))]) rfl (og rfl (of_eff (s_alloc 104 rfl ti36 (by kernel_rfl) rfl) rfl)) rfl ?_
                    refine rg_sto (nw := [(104, .bx 36 ((eDc (ix l k))))]) rfl (og rfl (of_eff (s_store rfl rfl ti36 rfl rfl rfl rfl rfl rfl) rfl)) ?_
                    refine rg_put (d := 12) (v := .d (.fl (.bool true))) rfl (og rfl (op_assign rfl rfl rfl)) ?_
                    refine rg_done rfl ?_
                    refine a_rseq ?_
                    refine rg_put (d := 91) (v := .d (.fl (.bool true))) rfl (og rfl (op_move rfl rfl rfl)) ?_
                    refine rg_put (d := 92) (v := .d (.fl (.bool (!true)))) rfl (og rfl (op_un rfl rfl (u_not _) rfl)) ?_
                    refine rg_put (d := 93) (v := .d (.fl (.bool (!true)))) rfl (og rfl (op_move rfl rfl rfl)) ?_
                    refine rg_put (d := 94) (v := .d (.ag (eDc (ix l k)))) rfl (oy rfl rfl rfl rfl (of_eff (s_load_pts rfl Try.underlying36 rfl ti36 rfl rfl rfl rfl) rfl)) ?_
                    refine rg_put (d := 95) (v := .d (.ag (eDc (ix l k)))) rfl (oy rfl rfl rfl rfl (of_eff (s_load_pts rfl Try.underlying36 rfl ti36 rfl rfl rfl rfl) rfl)) ?_
                    refine rg_put (d := 96) (v := .d (.fl (.bool true))) rfl (oy rfl rfl rfl rfl (op_call rfl Try.func15 nm15 rfl (.cons rfl (.d _) (.cons rfl (.d _) .nil)) (same15 (ix l k) hz1 hz2) rfl)) ?_
                    refine rg_put (d := 97) (v := .d (.fl (.bool (!true)))) rfl (oy rfl rfl rfl rfl (op_un rfl rfl (u_not _) rfl)) ?_
                    refine rg_put (d := 98) (v := .d (.fl (.bool (!true)))) rfl (og rfl (op_pick rfl rfl rfl rfl)) ?_
                    refine rg_done rfl ?_
                    refine a_condF rfl rfl ?_
                    refine a_skip ?_
                    show A _ _ _ _ _ _ _
                    refine a_region ?_
                    refine rg_put (d := 99) (v := .d (.fl (.int .i64 (((k : Int) + 1))))) rfl (og rfl (op_bin rfl rfl rfl (fun x y w => b_add64 _ _ _ x y w (by omega)) rfl)) ?_
                    refine rg_put (d := 30) (v := .d (.fl (.int .i64 (((k : Int) + 1))))) rfl (og rfl (op_move rfl rfl rfl)) ?_
                    refine rg_done rfl ?_
                    show ∃ i, _ ∧ _ ∧ Imp _ _ _ _ _
                    refine ⟨k + 1, (by omega), by omega, imp_forget rfl ⟨rfl, rfl, rfl, rfl, rfl, rfl, rfl, (by first | rfl | exact ci (by omega) | exact ci (by simp) | exact cd (by simp) | simp), trivial⟩ ⟨rfl, trivial⟩⟩
            · skip
              have h21 := t_dec h10
              refine rg_put (d := 43) (v := .d (.fl undef)) rfl (on rfl rfl rfl h10) ?_
              refine rg_put (d := 44) (v := .d (.fl undef)) rfl (on rfl rfl rfl h10) ?_
              refine rg_put (d := 45) (v := .d (.fl (.bool true))) rfl (og rfl (op_pick rfl rfl (by rw [h10]; rfl) rfl)) ?_
              refine rg_done rfl ?_
              refine a_condK rfl rfl ?_
              refine a_seq ?_
              refine a_rseq ?_
              refine rg_put (d := 46) (v := .d (.fl (.bool false))) rfl (og rfl (op_move rfl rfl rfl)) ?_
              refine rg_put (d := 47) (v := .d (.fl (.bool false))) rfl (og rfl (op_move rfl rfl rfl)) ?_
              refine rg_put (d := 48) (v := .d (.fl (.int .i64 0))) rfl (oy rfl rfl rfl rfl (op_move rfl rfl rfl)) ?_
              refine rg_put (d := 49) (v := .d (.fl (.bool (0 != 0)))) rfl (oy rfl rfl rfl rfl (op_bin rfl rfl rfl (b_neq _ _ _ _) rfl)) ?_
              refine rg_put (d := 50) (v := .d (.fl (.bool (0 != 0)))) rfl (og rfl (op_pick rfl rfl rfl rfl)) ?_
              refine rg_done rfl ?_
              refine a_condF rfl (ne_self_b _) ?_
              refine a_skip ?_
              show A _ _ _ _ _ _ _
              refine a_exit ?_
              show A _ _ _ _ _ _ _
              refine a_region ?_
              refine rg_put (d := 99) (v := .d (.fl (.int .i64 (((k : Int) + 1))))) rfl (og rfl (op_bin rfl rfl rfl (fun x y w => b_add64 _ _ _ x y w (by omega)) rfl)) ?_
              refine rg_put (d := 30) (v := .d (.fl (.int .i64 (((k : Int) + 1))))) rfl (og rfl (op_move rfl rfl rfl)) ?_
              refine rg_done rfl ?_
              show ∃ i, _ ∧ _ ∧ Imp _ _ _ _ _
              refine ⟨k + 1, (by omega), by omega, imp_forget rfl ⟨rfl, rfl, rfl, rfl, rfl, rfl, rfl, (by first | rfl | exact ci (by omega) | exact ci (by simp) | exact cd (by simp) | simp), trivial⟩ ⟨rfl, trivial⟩⟩
          · skip
            rcases fot ((isT (raw + (dl (ix l k).offs raw (ix l k).offs.length)))) with h22 | h22
            · skip
              refine rg_put (d := 37) (v := .tu [.fl (.int .i64 0), .fl (.bool false)]) rfl (og rfl (op_call rfl Try.func10 nm10 rfl (.cons rfl (.d _) (.cons rfl (.d _) .nil)) (clkE hz1 ho (clk_no h22)) rfl)) ?_
              refine rg_put (d := 34) (v := .tu [.fl (.int .i64 0), .fl (.bool false)]) rfl (og rfl (op_move rfl rfl rfl)) ?_
              refine rg_put (d := 38) (v := .d (.fl (.int .i64 0))) rfl (og rfl (op_extract rfl rfl rfl rfl)) ?_
              refine rg_put (d := 39) (v := .d (.fl (.bool false))) rfl (og rfl (op_extract rfl rfl rfl rfl)) ?_
              refine rg_put (d := 9) (v := .d (.fl (.int .i64 0))) rfl (og rfl (op_assign rfl rfl rfl)) ?_
              refine rg_put (d := 10) (v := .d (.fl (.bool false))) rfl (og rfl (op_assign rfl rfl rfl)) ?_
              refine rg_done rfl ?_
              refine a_seq ?_
              refine a_rseq ?_
              have hr := isT_t.1 h9
              have hb := isT_f h22
              refine rg_put (d := 40) (v := .d (.fl (.int .i64 raw))) rfl (og rfl (op_move rfl rfl rfl)) ?_
              refine rg_put (d := 41) (v := .d (.fl (.bool ((decide (raw < 0)))))) rfl (og rfl (op_bin rfl rfl rfl (b_lss _ _ _ _) rfl)) ?_
              refine rg_put (d := 42) (v := .d (.fl (.bool ((decide (raw < 0)))))) rfl (og rfl (op_move rfl rfl rfl)) ?_
              rcases fot ((decide (raw < 0))) with h23 | h23
              · skip
                have h24 := f_dec h23
                refine rg_put (d := 43) (v := .d (.fl (.int .i64 raw))) rfl (oy rfl rfl rfl h23 (op_move rfl rfl rfl)) ?_
                refine rg_put (d := 44) (v := .d (.fl (.bool ((decide (68719476736 ≤ raw)))))) rfl (oy rfl rfl rfl h23 (op_bin rfl rfl rfl (b_geq _ _ _ _) rfl)) ?_
                refine rg_put (d := 45) (v := .d (.fl (.bool ((decide (68719476736 ≤ raw)))))) rfl (og rfl (op_pick rfl rfl (by rw [h23]; rfl) rfl)) ?_
                refine rg_done rfl ?_
                refine a_cond rfl (fun h25 => ?_) (fun h25 => ?_)
                · skip
                  have h26 := t_dec h25
                  refine a_seq ?_
                  refine a_rseq ?_
                  refine rg_put (d := 46) (v := .d (.fl (.bool false))) rfl (og rfl (op_move rfl rfl rfl)) ?_
                  refine rg_put (d := 47) (v := .d (.fl (.bool false))) rfl (og rfl (op_move rfl rfl rfl)) ?_
                  refine rg_put (d := 48) (v := .d (.fl (.int .i64 0))) rfl (oy rfl rfl rfl rfl (op_move rfl rfl rfl)) ?_
                  refine rg_put (d := 49) (v := .d (.fl (.bool (0 != 0)))) rfl (oy rfl rfl rfl rfl (op_bin rfl rfl rfl (b_neq _ _ _ _) rfl)) ?_
                  refine rg_put (d := 50) (v := .d (.fl (.bool (0 != 0)))) rfl (og rfl (op_pick rfl rfl rfl rfl)) ?_
                  refine rg_done rfl ?_
                  refine a_condF rfl (ne_self_b _) ?_
                  refine a_skip ?_
                  show A _ _ _ _ _ _ _
                  refine a_exit ?_
                  show A _ _ _ _ _ _ _
                  refine a_region ?_
                  refine rg_put (d := 99) (v := .d (.fl (.int .i64 (((k : Int) + 1))))) rfl (og rfl (op_bin rfl rfl rfl (fun x y w => b_add64 _ _ _ x y w (by omega)) rfl)) ?_
                  refine rg_put (d := 30) (v := .d (.fl (.int .i64 (((k : Int) + 1))))) rfl (og rfl (op_move rfl rfl rfl)) ?_
                  refine rg_done rfl ?_
                  show ∃ i, _ ∧ _ ∧ Imp _ _ _ _ _
                  refine ⟨k + 1, (by omega), by omega, imp_forget rfl ⟨rfl, rfl, rfl, rfl, rfl, rfl, rfl, (by first | rfl | exact ci (by omega) | exact ci (by simp) | exact cd (by simp) | simp), trivial⟩ ⟨rfl, trivial⟩⟩
                · skip
                  have h27 := f_dec h25
                  refine a_skip ?_
                  show A _ _ _ _ _ _ _
                  refine a_seq ?_
                  refine a_rseq ?_
                  refine rg_put (d := 51) (v := .d (.fl (.bool false))) rfl (og rfl (op_move rfl rfl rfl)) ?_
                  refine rg_put (d := 52) (v := .d (.fl (.bool false))) rfl (og rfl (op_move rfl rfl rfl)) ?_
                  refine rg_put (d := 53) (v := .d (.fl undef)) rfl (on rfl rfl rfl rfl) ?_
                  refine rg_put (d := 54) (v := .d (.fl undef)) rfl (on rfl rfl rfl rfl) ?_
                  refine rg_put (d := 55) (v := .d (.fl undef)) rfl (on rfl rfl rfl rfl) ?_
                  refine rg_put (d := 56) (v := .d (.fl undef)) rfl (ou rfl rfl rfl) ?_
                  refine rg_put (d := 57) (v := .d (.fl undef)) rfl (ou rfl rfl rfl) ?_
                  refine rg_put (d := 58) (v := .d (.fl undef)) rfl (on rfl rfl rfl rfl) ?_
                  refine rg_put (d := 59) (v := .d (.fl undef)) rfl (on rfl rfl rfl rfl) ?_
                  refine rg_put (d := 60) (v := .d (.fl undef)) rfl (ou rfl rfl rfl) ?_
                  refine rg_put (d := 61) (v := .d (.fl undef)) rfl (ou rfl rfl rfl) ?_
                  refine rg_put (d := 62) (v := .d (.fl undef)) rfl (ou rfl rfl rfl) ?_
                  refine rg_put (d := 63) (v := .d (.fl undef)) rfl (ou rfl rfl rfl) ?_
                  refine rg_put (d := 64) (v := .d (.fl undef)) rfl (on rfl rfl rfl rfl) ?_
                  refine rg_put (d := 65) (v := .d (.fl undef)) rfl (on rfl rfl rfl rfl) ?_
                  refine rg_put (d := 66) (v := .d (.fl undef)) rfl (ou rfl rfl rfl) ?_
                  refine rg_put (d := 67) (v := .d (.fl undef)) rfl (ou rfl rfl rfl) ?_
                  refine rg_put (d := 68) (v := .d (.fl undef)) rfl (ou rfl rfl rfl) ?_
                  refine rg_put (d := 69) (v := .d (.fl undef)) rfl (ou rfl rfl rfl) ?_
                  refine rg_put (d := 70) (v := .d (.fl undef)) rfl (on rfl rfl rfl rfl) ?_
                  refine rg_put (d := 71) (v := .d (.fl (.bool false))) rfl (og rfl (op_pick rfl rfl rfl rfl)) ?_
                  refine rg_put (d := 72) (v := .d (.fl (.bool false))) rfl (og rfl (op_move rfl rfl rfl)) ?_
                  refine rg_put (d := 73) (v := .d (.fl (.bool false))) rfl (oy rfl rfl rfl rfl (op_move rfl rfl rfl)) ?_
                  refine rg_put (d := 74) (v := .d (.fl (.bool (!false)))) rfl (oy rfl rfl rfl rfl (op_un rfl rfl (u_not _) rfl)) ?_
                  refine rg_put (d := 75) (v := .d (.fl (.bool (!false)))) rfl (oy rfl rfl rfl rfl (op_move rfl rfl rfl)) ?_
                  refine rg_put (d := 76) (v := .d (.fl (.int .i64 raw))) rfl (oy rfl rfl rfl rfl (op_move rfl rfl rfl)) ?_
                  refine rg_put (d := 77) (v := .d (.fl (.bool ((decide (86400 ≤ raw)))))) rfl (oy rfl rfl rfl rfl (op_bin rfl rfl rfl (b_geq _ _ _ _) rfl)) ?_
                  refine rg_put (d := 78) (v := .d (.fl (.bool ((decide (86400 ≤ raw)))))) rfl (oy rfl rfl rfl rfl (op_pick rfl rfl rfl rfl)) ?_
                  refine rg_put (d := 79) (v := .d (.fl (.bool ((decide (86400 ≤ raw)))))) rfl (oy rfl rfl rfl rfl (op_move rfl rfl rfl)) ?_
                  rcases fot ((decide (86400 ≤ raw))) with h28 | h28
                  · skip
                    have h29 := f_dec h28
                    refine rg_put (d := 80) (v := .d (.fl undef)) rfl (on rfl rfl rfl h28) ?_
                    refine rg_put (d := 81) (v := .d (.fl undef)) rfl (on rfl rfl rfl h28) ?_
                    refine rg_put (d := 82) (v := .d (.fl (.bool false))) rfl (oy rfl rfl rfl rfl (op_pick rfl rfl (by rw [h28]; rfl) rfl)) ?_
                    refine rg_put (d := 83) (v := .d (.fl (.bool false))) rfl (og rfl (op_pick rfl rfl rfl rfl)) ?_
                    refine rg_done rfl ?_
                    refine a_condF rfl rfl ?_
                    refine a_skip ?_
                    show A _ _ _ _ _ _ _
                    refine a_rseq ?_
                    refine rg_put (d := 85) (v := .d (.sl 6 (List.map eDc l))) rfl (og rfl (op_move rfl rfl rfl)) ?_
                    refine rg_put (d := 86) (v := .pt 102 0) rfl (og rfl (of_eff (s_field_pt rfl Try.underlying36 rfl ti9 rfl rfl rfl) rfl)) ?_
                    refine rg_put (d := 87) (v := .d (.fl (.string ((ix l k).name)))) rfl (og rfl (op_load_pt rfl Try.underlying9 rfl rfl rfl rfl rfl)) ?_
                    refine rg_put (d := 88) (v := .tu [.ag (eDc (ix l k)), .fl (.bool true)]) rfl (og rfl (op_call rfl Try.func14 nm14 rfl (.cons rfl (.d _) (.cons rfl (.d _) .nil)) (find14 l (ix l k).name k (by omega) (by omega) hdq (eq_self_s _) hz1 hz2) rfl)) ?_
                    refine rg_put (d := 84) (v := .tu [.ag (eDc (ix l k)), .fl (.bool true)]) rfl (og rfl (op_move rfl rfl rfl)) ?_
                    refine rg_put (d := 89) (v := .d (.ag (eDc (ix l k)))) rfl (og rfl (op_extract rfl rfl rfl rfl)) ?_
                    refine rg_put (d := 90) (v := .d (.fl (.bool true))) rfl (og rfl (op_extract rfl rfl rfl rfl)) ?_
                    refine rg_nam (d := 11) (v := .pt 105 0) (m := 105) (nw := [(105, .bx 36 ([.fl (.string (⟨#[]⟩)), .fl (.string (⟨#[]⟩)), .fl (.int .i64 0), .fl (.int .i64 0), .fl (.slice none 0 0), .fl (.slice none 0 0)]))]) rfl (og rfl (of_eff (s_alloc 105 rfl ti36 (by kernel_rfl) rfl) rfl)) rfl ?_
                    refine rg_sto (nw := [(105, .bx 36 ((eDc (ix l k))))]) rfl (og rfl (of_eff (s_store rfl rfl ti36 rfl rfl rfl rfl rfl rfl) rfl)) ?_
                    refine rg_put (d := 12) (v := .d (.fl (.bool true))) rfl (og rfl (op_assign rfl rfl rfl)) ?_
                    refine rg_done rfl ?_
                    refine a_rseq ?_
                    refine rg_put (d := 91) (v := .d (.fl (.bool true))) rfl (og rfl (op_move rfl rfl rfl)) ?_
                    refine rg_put (d := 92) (v := .d (.fl (.bool (!true)))) rfl (og rfl (op_un rfl rfl (u_not _) rfl)) ?_
                    refine rg_put (d := 93) (v := .d (.fl (.bool (!true)))) rfl (og rfl (op_move rfl rfl rfl)) ?_
                    refine rg_put (d := 94) (v := .d (.ag (eDc (ix l k)))) rfl (oy rfl rfl rfl rfl (of_eff (s_load_pts rfl Try.underlying36 rfl ti36 rfl rfl rfl rfl) rfl)) ?_
                    refine rg_put (d := 95) (v := .d (.ag (eDc (ix l k)))) rfl (oy rfl rfl rfl rfl (of_eff (s_load_pts rfl Try.underlying36 rfl ti36 rfl rfl rfl rfl) rfl)) ?_
                    refine rg_put (d := 96) (v := .d (.fl (.bool true))) rfl (oy rfl rfl rfl rfl (op_call rfl Try.func15 nm15 rfl (.cons rfl (.d _) (.cons rfl (.d _) .nil)) (same15 (ix l k) hz1 hz2) rfl)) ?_
                    refine rg_put (d := 97) (v := .d (.fl (.bool (!true)))) rfl (oy rfl rfl rfl rfl (op_un rfl rfl (u_not _) rfl)) ?_
                    refine rg_put (d := 98) (v := .d (.fl (.bool (!true)))) rfl (og rfl (op_pick rfl rfl rfl rfl)) ?_
                    refine rg_done rfl ?_
                    refine a_condF rfl rfl ?_
                    refine a_skip ?_
                    show A _ _ _ _ _ _ _
                    refine a_region ?_
                    refine rg_put (d := 99) (v := .d (.fl (.int .i64 (((k : Int) + 1))))) rfl (og rfl (op_bin rfl rfl rfl (fun x y w => b_add64 _ _ _ x y w (by omega)) rfl)) ?_
                    refine rg_put (d := 30) (v := .d (.fl (.int .i64 (((k : Int) + 1))))) rfl (og rfl (op_move rfl rfl rfl)) ?_
                    refine rg_done rfl ?_
                    show ∃ i, _ ∧ _ ∧ Imp _ _ _ _ _
                    refine ⟨k + 1, (by omega), by omega, imp_forget rfl ⟨rfl, rfl, rfl, rfl, rfl, rfl, rfl, (by first | rfl | exact ci (by omega) | exact ci (by simp) | exact cd (by simp) | simp), trivial⟩ ⟨rfl, trivial⟩⟩
                  · skip
                    have h30 := t_dec h28
                    refine rg_put (d := 80) (v := .d (.fl (.int .i64 raw))) rfl (oy rfl rfl rfl h28 (op_move rfl rfl rfl)) ?_
                    refine rg_put (d := 81) (v := .d (.fl (.bool ((decide (raw < 68719390336)))))) rfl (oy rfl rfl rfl h28 (op_bin rfl rfl rfl (b_lss _ _ _ _) rfl)) ?_
                    refine rg_put (d := 82) (v := .d (.fl (.bool ((decide (raw < 68719390336)))))) rfl (oy rfl rfl rfl rfl (op_pick rfl rfl (by rw [h28]; rfl) rfl)) ?_
                    refine rg_put (d := 83) (v := .d (.fl (.bool ((decide (raw < 68719390336)))))) rfl (og rfl (op_pick rfl rfl rfl rfl)) ?_
                    refine rg_done rfl ?_
                    refine a_cond rfl (fun h31 => ?_) (fun h31 => ?_)
                    · skip
                      have h32 := t_dec h31
                      refine a_rseq ?_
                      refine rg_put (d := 6) (v := .d (.fl (.bool false))) rfl (og rfl (op_assign rfl rfl rfl)) ?_
                      refine rg_done rfl ?_
                      refine a_ret ?_
                      show ∃ ds, ResL _ _ _ ds ∧ RV.of ds = _
                      refine ⟨[.fl (.bool false)], (.cons (.tmp rfl (.d _)) .nil), ?_⟩
                      exfalso; omega
                    · skip
                      have h33 := f_dec h31
                      refine a_skip ?_
                      show A _ _ _ _ _ _ _
                      refine a_rseq ?_
                      refine rg_put (d := 85) (v := .d (.sl 6 (List.map eDc l))) rfl (og rfl (op_move rfl rfl rfl)) ?_
                      refine rg_put (d := 86) (v := .pt 102 0) rfl (og rfl (of_eff (s_field_pt rfl Try.underlying36 rfl ti9 rfl rfl rfl) rfl)) ?_
                      refine rg_put (d := 87) (v := .d (.fl (.string ((ix l k).name)))) rfl (og rfl (op_load_pt rfl Try.underlying9 rfl rfl rfl rfl rfl)) ?_
                      refine rg_put (d := 88) (v := .tu [.ag (eDc (ix l k)), .fl (.bool true)]) rfl (og rfl (op_call rfl Try.func14 nm14 rfl (.cons rfl (.d _) (.cons rfl (.d _) .nil)) (find14 l (ix l k).name k (by omega) (by omega) hdq (eq_self_s _) hz1 hz2) rfl)) ?_
                      refine rg_put (d := 84) (v := .tu [.ag (eDc (ix l k)), .fl (.bool true)]) rfl (og rfl (op_move rfl rfl rfl)) ?_
                      refine rg_put (d := 89) (v := .d (.ag (eDc (ix l k)))) rfl (og rfl (op_extract rfl rfl rfl rfl)) ?_
                      refine rg_put (d := 90) (v := .d (.fl (.bool true))) rfl (og rfl (op_extract rfl rfl rfl rfl)) ?_
                      refine rg_nam (d := 11) (v := .pt 106 0) (m := 106) (nw := [(106, .bx 36 ([.fl (.string (⟨#[]⟩)), .fl (.string (⟨#[]⟩)), .fl (.int .i64 0), .fl (.int .i64 0), .fl (.slice none 0 0), .fl (.slice none 0 0)]))]) rfl (og rfl (of_eff (s_alloc 106 rfl ti36 (by kernel_rfl) rfl) rfl)) rfl ?_
                      refine rg_sto (nw := [(106, .bx 36 ((eDc (ix l k))))]) rfl (og rfl (of_eff (s_store rfl rfl ti36 rfl rfl rfl rfl rfl rfl) rfl)) ?_
                      refine rg_put (d := 12) (v := .d (.fl (.bool true))) rfl (og rfl (op_assign rfl rfl rfl)) ?_
                      refine rg_done rfl ?_
                      refine a_rseq ?_
                      refine rg_put (d := 91) (v := .d (.fl (.bool true))) rfl (og rfl (op_move rfl rfl rfl)) ?_
                      refine rg_put (d := 92) (v := .d (.fl (.bool (!true)))) rfl (og rfl (op_un rfl rfl (u_not _) rfl)) ?_
                      refine rg_put (d := 93) (v := .d (.fl (.bool (!true)))) rfl (og rfl (op_move rfl rfl rfl)) ?_
                      refine rg_put (d := 94) (v := .d (.ag (eDc (ix l k)))) rfl (oy rfl rfl rfl rfl (of_eff (s_load_pts rfl Try.underlying36 rfl ti36 rfl rfl rfl rfl) rfl)) ?_
                      refine rg_put (d := 95) (v := .d (.ag (eDc (ix l k)))) rfl (oy rfl rfl rfl rfl (of_eff (s_load_pts rfl Try.underlying36 rfl ti36 rfl rfl rfl rfl) rfl)) ?_
                      refine rg_put (d := 96) (v := .d (.fl (.bool true))) rfl (oy rfl rfl rfl rfl (op_call rfl Try.func15 nm15 rfl (.cons rfl (.d _) (.cons rfl (.d _) .nil)) (same15 (ix l k) hz1 hz2) rfl)) ?_
                      refine rg_put (d := 97) (v := .d (.fl (.bool (!true)))) rfl (oy rfl rfl rfl rfl (op_un rfl rfl (u_not _) rfl)) ?_
                      refine rg_put (d := 98) (v := .d (.fl (.bool (!true)))) rfl (og rfl (op_pick rfl rfl rfl rfl)) ?_
                      refine rg_done rfl ?_
                      refine a_condF rfl rfl ?_
                      refine a_skip ?_
                      show A _ _ _ _ _ _ _
                      refine a_region ?_
                      refine rg_put (d := 99) (v := .d (.fl (.int .i64 (((k : Int) + 1))))) rfl (og rfl (op_bin rfl rfl rfl (fun x y w => b_add64 _ _ _ x y w (by omega)) rfl)) ?_
                      refine rg_put (d := 30) (v := .d (.fl (.int .i64 (((k : Int) + 1))))) rfl (og rfl (op_move rfl rfl rfl)) ?_
                      refine rg_done rfl ?_
                      show ∃ i, _ ∧ _ ∧ Imp _ _ _ _ _
                      refine ⟨k + 1, (by omega), by omega, imp_forget rfl ⟨rfl, rfl, rfl, rfl, rfl, rfl, rfl, (by first | rfl | exact ci (by omega) | exact ci (by simp) | exact cd (by simp) | simp), trivial⟩ ⟨rfl, trivial⟩⟩
              · skip
                have h34 := t_dec h23
                refine rg_put (d := 43) (v := .d (.fl undef)) rfl (on rfl rfl rfl h23) ?_
                refine rg_put (d := 44) (v := .d (.fl undef)) rfl (on rfl rfl rfl h23) ?_
                refine rg_put (d := 45) (v := .d (.fl (.bool true))) rfl (og rfl (op_pick rfl rfl (by rw [h23]; rfl) rfl)) ?_
                refine rg_done rfl ?_
                refine a_condK rfl rfl ?_
                refine a_seq ?_
                refine a_rseq ?_
                refine rg_put (d := 46) (v := .d (.fl (.bool false))) rfl (og rfl (op_move rfl rfl rfl)) ?_
                refine rg_put (d := 47) (v := .d (.fl (.bool false))) rfl (og rfl (op_move rfl rfl rfl)) ?_
                refine rg_put (d := 48) (v := .d (.fl (.int .i64 0))) rfl (oy rfl rfl rfl rfl (op_move rfl rfl rfl)) ?_
                refine rg_put (d := 49) (v := .d (.fl (.bool (0 != 0)))) rfl (oy rfl rfl rfl rfl (op_bin rfl rfl rfl (b_neq _ _ _ _) rfl)) ?_
                refine rg_put (d := 50) (v := .d (.fl (.bool (0 != 0)))) rfl (og rfl (op_pick rfl rfl rfl rfl)) ?_
                refine rg_done rfl ?_
                refine a_condF rfl (ne_self_b _) ?_
                refine a_skip ?_
                show A _ _ _ _ _ _ _
                refine a_exit ?_
                show A _ _ _ _ _ _ _
                refine a_region ?_
                refine rg_put (d := 99) (v := .d (.fl (.int .i64 (((k : Int) + 1))))) rfl (og rfl (op_bin rfl rfl rfl (fun x y w => b_add64 _ _ _ x y w (by omega)) rfl)) ?_
                refine rg_put (d := 30) (v := .d (.fl (.int .i64 (((k : Int) + 1))))) rfl (og rfl (op_move rfl rfl rfl)) ?_
                refine rg_done rfl ?_
                show ∃ i, _ ∧ _ ∧ Imp _ _ _ _ _
                refine ⟨k + 1, (by omega), by omega, imp_forget rfl ⟨rfl, rfl, rfl, rfl, rfl, rfl, rfl, (by first | rfl | exact ci (by omega) | exact ci (by simp) | exact cd (by simp) | simp), trivial⟩ ⟨rfl, trivial⟩⟩
            · skip
              refine rg_put (d := 37) (v := .tu [.fl (.int .i64 ((raw + (dl (ix l k).offs raw (ix l k).offs.length)))), .fl (.bool true)]) rfl (og rfl (op_call rfl Try.func10 nm10 rfl (.cons rfl (.d _) (.cons rfl (.d _) .nil)) (clkE hz1 ho (clk_ok h9 h22)) rfl)) ?_
              refine rg_put (d := 34) (v := .tu [.fl (.int .i64 ((raw + (dl (ix l k).offs raw (ix l k).offs.length)))), .fl (.bool true)]) rfl (og rfl (op_move rfl rfl rfl)) ?_
              refine rg_put (d := 38) (v := .d (.fl (.int .i64 ((raw + (dl (ix l k).offs raw (ix l k).offs.length)))))) rfl (og rfl (op_extract rfl rfl rfl rfl)) ?_
              refine rg_put (d := 39) (v := .d (.fl (.bool true))) rfl (og rfl (op_extract rfl rfl rfl rfl)) ?_
              refine rg_put (d := 9) (v := .d (.fl (.int .i64 ((raw + (dl (ix l k).offs raw (ix l k).offs.length)))))) rfl (og rfl (op_assign rfl rfl rfl)) ?_
              refine rg_put (d := 10) (v := .d (.fl (.bool true))) rfl (og rfl (op_assign rfl rfl rfl)) ?_
              refine rg_done rfl ?_
              refine a_seq ?_
              refine a_rseq ?_
              have hr := isT_t.1 h9
              have hb := isT_t.1 h22
              refine rg_put (d := 40) (v := .d (.fl (.int .i64 raw))) rfl (og rfl (op_move rfl rfl rfl)) ?_
              refine rg_put (d := 41) (v := .d (.fl (.bool ((decide (raw < 0)))))) rfl (og rfl (op_bin rfl rfl rfl (b_lss _ _ _ _) rfl)) ?_
              refine rg_put (d := 42) (v := .d (.fl (.bool ((decide (raw < 0)))))) rfl (og rfl (op_move rfl rfl rfl)) ?_
              rcases fot ((decide (raw < 0))) with h35 | h35
              · skip
                have h36 := f_dec h35
                refine rg_put (d := 43) (v := .d (.fl (.int .i64 raw))) rfl (oy rfl rfl rfl h35 (op_move rfl rfl rfl)) ?_
                refine rg_put (d := 44) (v := .d (.fl (.bool ((decide (68719476736 ≤ raw)))))) rfl (oy rfl rfl rfl h35 (op_bin rfl rfl rfl (b_geq _ _ _ _) rfl)) ?_
                refine rg_put (d := 45) (v := .d (.fl (.bool ((decide (68719476736 ≤ raw)))))) rfl (og rfl (op_pick rfl rfl (by rw [h35]; rfl) rfl)) ?_
                refine rg_done rfl ?_
                refine a_cond rfl (fun h37 => ?_) (fun h37 => ?_)
                · skip
                  have h38 := t_dec h37
                  refine a_seq ?_
                  refine a_rseq ?_
                  refine rg_put (d := 46) (v := .d (.fl (.bool true))) rfl (og rfl (op_move rfl rfl rfl)) ?_
                  refine rg_put (d := 47) (v := .d (.fl (.bool true))) rfl (og rfl (op_move rfl rfl rfl)) ?_
                  refine rg_put (d := 48) (v := .d (.fl undef)) rfl (on rfl rfl rfl rfl) ?_
                  refine rg_put (d := 49) (v := .d (.fl undef)) rfl (on rfl rfl rfl rfl) ?_
                  refine rg_put (d := 50) (v := .d (.fl (.bool true))) rfl (og rfl (op_pick rfl rfl rfl rfl)) ?_
                  refine rg_done rfl ?_
                  refine a_condK rfl rfl ?_
                  refine a_rseq ?_
                  refine rg_put (d := 6) (v := .d (.fl (.bool false))) rfl (og rfl (op_assign rfl rfl rfl)) ?_
                  refine rg_done rfl ?_
                  refine a_ret ?_
                  show ∃ ds, ResL _ _ _ ds ∧ RV.of ds = _
                  refine ⟨[.fl (.bool false)], (.cons (.tmp rfl (.d _)) .nil), ?_⟩
                  exfalso; omega
                · skip
                  have h39 := f_dec h37
                  refine a_skip ?_
                  show A _ _ _ _ _ _ _
                  refine a_seq ?_
                  refine a_rseq ?_
                  refine rg_put (d := 51) (v := .d (.fl (.bool true))) rfl (og rfl (op_move rfl rfl rfl)) ?_
                  refine rg_put (d := 52) (v := .d (.fl (.bool true))) rfl (og rfl (op_move rfl rfl rfl)) ?_
                  refine rg_put (d := 53) (v := .d (.fl (.int .i64 ((raw + (dl (ix l k).offs raw (ix l k).offs.length)))))) rfl (oy rfl rfl rfl rfl (op_move rfl rfl rfl)) ?_
                  refine rg_put (d := 54) (v := .d (.fl (.bool ((decide ((raw + (dl (ix l k).offs raw (ix l k).offs.length)) < 0)))))) rfl (oy rfl rfl rfl rfl (op_bin rfl rfl rfl (b_lss _ _ _ _) rfl)) ?_
                  refine rg_put (d := 55) (v := .d (.fl (.bool ((decide ((raw + (dl (ix l k).offs raw (ix l k).offs.length)) < 0)))))) rfl (oy rfl rfl rfl rfl (op_move rfl rfl rfl)) ?_
                  rcases fot ((decide ((raw + (dl (ix l k).offs raw (ix l k).offs.length)) < 0))) with h40 | h40
                  · skip
                    have h41 := f_dec h40
                    refine rg_put (d := 56) (v := .d (.fl (.int .i64 ((raw + (dl (ix l k).offs raw (ix l k).offs.length)))))) rfl (oy rfl rfl rfl h40 (op_move rfl rfl rfl)) ?_
                    refine rg_put (d := 57) (v := .d (.fl (.bool ((decide (68719476736 ≤ (raw + (dl (ix l k).offs raw (ix l k).offs.length)))))))) rfl (oy rfl rfl rfl h40 (op_bin rfl rfl rfl (b_geq _ _ _ _) rfl)) ?_
                    refine rg_put (d := 58) (v := .d (.fl (.bool ((decide (68719476736 ≤ (raw + (dl (ix l k).offs raw (ix l k).offs.length)))))))) rfl (oy rfl rfl rfl rfl (op_pick rfl rfl (by rw [h40]; rfl) rfl)) ?_
                    refine rg_put (d := 59) (v := .d (.fl (.bool ((decide (68719476736 ≤ (raw + (dl (ix l k).offs raw (ix l k).offs.length)))))))) rfl (oy rfl rfl rfl rfl (op_move rfl rfl rfl)) ?_
                    rcases fot ((decide (68719476736 ≤ (raw + (dl (ix l k).offs raw (ix l k).offs.length))))) with h42 | h42
                    · skip
                      have h43 := f_dec h42
                      refine rg_put (d := 60) (v := .d (.fl (.int .i64 ((raw + (dl (ix l k).offs raw (ix l k).offs.length)))))) rfl (oy rfl rfl rfl h42 (op_move rfl rfl rfl)) ?_
                      refine rg_put (d := 61) (v := .d (.fl (.int .i64 raw))) rfl (oy rfl rfl rfl h42 (op_move rfl rfl rfl)) ?_
                      refine rg_put (d := 62) (v := .d (.fl (.int .i64 (((raw + (dl (ix l k).offs raw (ix l k).offs.length)) - raw))))) rfl (oy rfl rfl rfl h42 (op_bin rfl rfl rfl (fun x y w => b_sub64 _ _ _ x y w (by omega)) rfl)) ?_
                      refine rg_put (d := 63) (v := .d (.fl (.bool ((decide (86400 < ((raw + (dl (ix l k).offs raw (ix l k).offs.length)) - raw))))))) rfl (oy rfl rfl rfl h42 (op_bin rfl rfl rfl (b_gtr _ _ _ _) rfl)) ?_
                      refine rg_put (d := 64) (v := .d (.fl (.bool ((decide (86400 < ((raw + (dl (ix l k).offs raw (ix l k).offs.length)) - raw))))))) rfl (oy rfl rfl rfl rfl (op_pick rfl rfl (by rw [h42]; rfl) rfl)) ?_
                      refine rg_put (d := 65) (v := .d (.fl (.bool ((decide (86400 < ((raw + (dl (ix l k).offs raw (ix l k).offs.length)) - raw))))))) rfl (oy rfl rfl rfl rfl (op_move rfl rfl rfl)) ?_
                      rcases fot ((decide (86400 < ((raw + (dl (ix l k).offs raw (ix l k).offs.length)) - raw)))) with h44 | h44
                      · skip
                        have h45 := f_dec h44
                        refine rg_put (d := 66) (v := .d (.fl (.int .i64 raw))) rfl (oy rfl rfl rfl h44 (op_move rfl rfl rfl)) ?_
                        refine rg_put (d := 67) (v := .d (.fl (.int .i64 ((raw + (dl (ix l k).offs raw (ix l k).offs.length)))))) rfl (oy rfl rfl rfl h44 (op_move rfl rfl rfl)) ?_
                        refine rg_put (d := 68) (v := .d (.fl (.int .i64 ((raw - (raw + (dl (ix l k).offs raw (ix l k).offs.length))))))) rfl (oy rfl rfl rfl h44 (op_bin rfl rfl rfl (fun x y w => b_sub64 _ _ _ x y w (by omega)) rfl)) ?_
                        refine rg_put (d := 69) (v := .d (.fl (.bool ((decide (86400 < (raw - (raw + (dl (ix l k).offs raw (ix l k).offs.length))))))))) rfl (oy rfl rfl rfl h44 (op_bin rfl rfl rfl (b_gtr _ _ _ _) rfl)) ?_
                        refine rg_put (d := 70) (v := .d (.fl (.bool ((decide (86400 < (raw - (raw + (dl (ix l k).offs raw (ix l k).offs.length))))))))) rfl (oy rfl rfl rfl rfl (op_pick rfl rfl (by rw [h44]; rfl) rfl)) ?_
                        refine rg_put (d := 71) (v := .d (.fl (.bool ((decide (86400 < (raw - (raw + (dl (ix l k).offs raw (ix l k).offs.length))))))))) rfl (og rfl (op_pick rfl rfl rfl rfl)) ?_
                        refine rg_put (d := 72) (v := .d (.fl (.bool ((decide (86400 < (raw - (raw + (dl (ix l k).offs raw (ix l k).offs.length))))))))) rfl (og rfl (op_move rfl rfl rfl)) ?_
                        rcases fot ((decide (86400 < (raw - (raw + (dl (ix l k).offs raw (ix l k).offs.length)))))) with h46 | h46
                        · skip
                          have h47 := f_dec h46
                          refine rg_put (d := 73) (v := .d (.fl (.bool true))) rfl (oy rfl rfl rfl h46 (op_move rfl rfl rfl)) ?_
                          refine rg_put (d := 74) (v := .d (.fl (.bool (!true)))) rfl (oy rfl rfl rfl h46 (op_un rfl rfl (u_not _) rfl)) ?_
                          refine rg_put (d := 75) (v := .d (.fl (.bool (!true)))) rfl (oy rfl rfl rfl h46 (op_move rfl rfl rfl)) ?_
                          refine rg_put (d := 76) (v := .d (.fl undef)) rfl (on rfl rfl rfl rfl) ?_
                          refine rg_put (d := 77) (v := .d (.fl undef)) rfl (on rfl rfl rfl rfl) ?_
                          refine rg_put (d := 78) (v := .d (.fl (.bool false))) rfl (oy rfl rfl rfl h46 (op_pick rfl rfl rfl rfl)) ?_
                          refine rg_put (d := 79) (v := .d (.fl (.bool false))) rfl (oy rfl rfl rfl h46 (op_move rfl rfl rfl)) ?_
                          refine rg_put (d := 80) (v := .d (.fl undef)) rfl (on rfl rfl rfl rfl) ?_
                          refine rg_put (d := 81) (v := .d (.fl undef)) rfl (on rfl rfl rfl rfl) ?_
                          refine rg_put (d := 82) (v := .d (.fl (.bool false))) rfl (oy rfl rfl rfl h46 (op_pick rfl rfl rfl rfl)) ?_
                          refine rg_put (d := 83) (v := .d (.fl (.bool false))) rfl (og rfl (op_pick rfl rfl (by rw [h46]; rfl) rfl)) ?_
                          refine rg_done rfl ?_
                          refine a_condF rfl rfl ?_
                          refine a_skip ?_
                          show A _ _ _ _ _ _ _
                          refine a_rseq ?_
                          refine rg_put (d := 85) (v := .d (.sl 6 (List.map eDc l))) rfl (og rfl (op_move rfl rfl rfl)) ?_
                          refine rg_put (d := 86) (v := .pt 102 0) rfl (og rfl (of_eff (s_field_pt rfl Try.underlying36 rfl ti9 rfl rfl rfl) rfl)) ?_
                          refine rg_put (d := 87) (v := .d (.fl (.string ((ix l k).name)))) rfl (og rfl (op_load_pt rfl Try.underlying9 rfl rfl rfl rfl rfl)) ?_
                          refine rg_put (d := 88) (v := .tu [.ag (eDc (ix l k)), .fl (.bool true)]) rfl (og rfl (op_call rfl Try.func14 nm14 rfl (.cons rfl (.d _) (.cons rfl (.d _) .nil)) (find14 l (ix l k).name k (by omega) (by omega) hdq (eq_self_s _) hz1 hz2) rfl)) ?_
                          refine rg_put (d := 84) (v := .tu [.ag (eDc (ix l k)), .fl (.bool true)]) rfl (og rfl (op_move rfl rfl rfl)) ?_
                          refine rg_put (d := 89) (v := .d (.ag (eDc (ix l k)))) rfl (og rfl (op_extract rfl rfl rfl rfl)) ?_
                          refine rg_put (d := 90) (v := .d (.fl (.bool true))) rfl (og rfl (op_extract rfl rfl rfl rfl)) ?_
                          refine rg_nam (d := 11) (v := .pt 107 0) (m := 107) (nw := [(107, .bx 36 ([.fl (.string (⟨#[]⟩)), .fl (.string (⟨#[]⟩)), .fl (.int .i64 0), .fl (.int .i64 0), .fl (.slice none 0 0), .fl (.slice none 0 0)]))]) rfl (og rfl (of_eff (s_alloc 107 rfl ti36 (by kernel_rfl) rfl) rfl)) rfl ?_
                          refine rg_sto (nw := [(107, .bx 36 ((eDc (ix l k))))]) rfl (og rfl (of_eff (s_store rfl rfl ti36 rfl rfl rfl rfl rfl rfl) rfl)) ?_
                          refine rg_put (d := 12) (v := .d (.fl (.bool true))) rfl (og rfl (op_assign rfl rfl rfl)) ?_
                          refine rg_done rfl ?_
                          refine a_rseq ?_
                          refine rg_put (d := 91) (v := .d (.fl (.bool true))) rfl (og rfl (op_move rfl rfl rfl)) ?_
                          refine rg_put (d := 92) (v := .d (.fl (.bool (!true)))) rfl (og rfl (op_un rfl rfl (u_not _) rfl)) ?_
                          refine rg_put (d := 93) (v := .d (.fl (.bool (!true)))) rfl (og rfl (op_move rfl rfl rfl)) ?_
                          refine rg_put (d := 94) (v := .d (.ag (eDc (ix l k)))) rfl (oy rfl rfl rfl rfl (of_eff (s_load_pts rfl Try.underlying36 rfl ti36 rfl rfl rfl rfl) rfl)) ?_
                          refine rg_put (d := 95) (v := .d (.ag (eDc (ix l k)))) rfl (oy rfl rfl rfl rfl (of_eff (s_load_pts rfl Try.underlying36 rfl ti36 rfl rfl rfl rfl) rfl)) ?_
                          refine rg_put (d := 96) (v := .d (.fl (.bool true))) rfl (oy rfl rfl rfl rfl (op_call rfl Try.func15 nm15 rfl (.cons rfl (.d _) (.cons rfl (.d _) .nil)) (same15 (ix l k) hz1 hz2) rfl)) ?_
                          refine rg_put (d := 97) (v := .d (.fl (.bool (!true)))) rfl (oy rfl rfl rfl rfl (op_un rfl rfl (u_not _) rfl)) ?_
                          refine rg_put (d := 98) (v := .d (.fl (.bool (!true)))) rfl (og rfl (op_pick rfl rfl rfl rfl)) ?_
                          refine rg_done rfl ?_
                          refine a_condF rfl rfl ?_
                          refine a_skip ?_
                          show A _ _ _ _ _ _ _
                          refine a_region ?_
                          refine rg_put (d := 99) (v := .d (.fl (.int .i64 (((k : Int) + 1))))) rfl (og rfl (op_bin rfl rfl rfl (fun x y w => b_add64 _ _ _ x y w (by omega)) rfl)) ?_
                          refine rg_put (d := 30) (v := .d (.fl (.int .i64 (((k : Int) + 1))))) rfl (og rfl (op_move rfl rfl rfl)) ?_
                          refine rg_done rfl ?_
                          show ∃ i, _ ∧ _ ∧ Imp _ _ _ _ _
                          refine ⟨k + 1, (by omega), by omega, imp_forget rfl ⟨rfl, rfl, rfl, rfl, rfl, rfl, rfl, (by first | rfl | exact ci (by omega) | exact ci (by simp) | exact cd (by simp) | simp), trivial⟩ ⟨rfl, trivial⟩⟩
                        · skip
                          have h48 := t_dec h46
                          refine rg_put (d := 73) (v := .d (.fl undef)) rfl (on rfl rfl rfl h46) ?_
                          refine rg_put (d := 74) (v := .d (.fl undef)) rfl (on rfl rfl rfl h46) ?_
                          refine rg_put (d := 75) (v := .d (.fl undef)) rfl (on rfl rfl rfl h46) ?_
                          refine rg_put (d := 76) (v := .d (.fl undef)) rfl (ou rfl rfl rfl) ?_
                          refine rg_put (d := 77) (v := .d (.fl undef)) rfl (ou rfl rfl rfl) ?_
                          refine rg_put (d := 78) (v := .d (.fl undef)) rfl (on rfl rfl rfl h46) ?_
                          refine rg_put (d := 79) (v := .d (.fl undef)) rfl (on rfl rfl rfl h46) ?_
                          refine rg_put (d := 80) (v := .d (.fl undef)) rfl (ou rfl rfl rfl) ?_
                          refine rg_put (d := 81) (v := .d (.fl undef)) rfl (ou rfl rfl rfl) ?_
                          refine rg_put (d := 82) (v := .d (.fl undef)) rfl (on rfl rfl rfl h46) ?_
                          refine rg_put (d := 83) (v := .d (.fl (.bool true))) rfl (og rfl (op_pick rfl rfl (by rw [h46]; rfl) rfl)) ?_
                          refine rg_done rfl ?_
                          refine a_condK rfl rfl ?_
                          refine a_rseq ?_
                          refine rg_put (d := 6) (v := .d (.fl (.bool false))) rfl (og rfl (op_assign rfl rfl rfl)) ?_
                          refine rg_done rfl ?_
                          refine a_ret ?_
                          show ∃ ds, ResL _ _ _ ds ∧ RV.of ds = _
                          refine ⟨[.fl (.bool false)], (.cons (.tmp rfl (.d _)) .nil), ?_⟩
                          exfalso; omega
                      · skip
                        have h49 := t_dec h44
                        refine rg_put (d := 66) (v := .d (.fl undef)) rfl (on rfl rfl rfl h44) ?_
                        refine rg_put (d := 67) (v := .d (.fl undef)) rfl (on rfl rfl rfl h44) ?_
                        refine rg_put (d := 68) (v := .d (.fl undef)) rfl (on rfl rfl rfl h44) ?_
                        refine rg_put (d := 69) (v := .d (.fl undef)) rfl (on rfl rfl rfl h44) ?_
                        refine rg_put (d := 70) (v := .d (.fl (.bool true))) rfl (oy rfl rfl rfl rfl (op_pick rfl rfl (by rw [h44]; rfl) rfl)) ?_
                        refine rg_put (d := 71) (v := .d (.fl (.bool true))) rfl (og rfl (op_pick rfl rfl rfl rfl)) ?_
                        refine rg_put (d := 72) (v := .d (.fl (.bool true))) rfl (og rfl (op_move rfl rfl rfl)) ?_
                        refine rg_put (d := 73) (v := .d (.fl undef)) rfl (on rfl rfl rfl rfl) ?_
                        refine rg_put (d := 74) (v := .d (.fl undef)) rfl (on rfl rfl rfl rfl) ?_
                        refine rg_put (d := 75) (v := .d (.fl undef)) rfl (on rfl rfl rfl rfl) ?_
                        refine rg_put (d := 76) (v := .d (.fl undef)) rfl (ou rfl rfl rfl) ?_
                        refine rg_put (d := 77) (v := .d (.fl undef)) rfl (ou rfl rfl rfl) ?_
                        refine rg_put (d := 78) (v := .d (.fl undef)) rfl (on rfl rfl rfl rfl) ?_
                        refine rg_put (d := 79) (v := .d (.fl undef)) rfl (on rfl rfl rfl rfl) ?_
                        refine rg_put (d := 80) (v := .d (.fl undef)) rfl (ou rfl rfl rfl) ?_
                        refine rg_put (d := 81) (v := .d (.fl undef)) rfl (ou rfl rfl rfl) ?_
                        refine rg_put (d := 82) (v := .d (.fl undef)) rfl (on rfl rfl rfl rfl) ?_
                        refine rg_put (d := 83) (v := .d (.fl (.bool true))) rfl (og rfl (op_pick rfl rfl rfl rfl)) ?_
                        refine rg_done rfl ?_
                        refine a_condK rfl rfl ?_
                        refine a_rseq ?_
                        refine rg_put (d := 6) (v := .d (.fl (.bool false))) rfl (og rfl (op_assign rfl rfl rfl)) ?_
                        refine rg_done rfl ?_
                        refine a_ret ?_
                        show ∃ ds, ResL _ _ _ ds ∧ RV.of ds = _
                        refine ⟨[.fl (.bool false)], (.cons (.tmp rfl (.d _)) .nil), ?_⟩
                        exfalso; omega
                    · skip
                      have h50 := t_dec h42
                      refine rg_put (d := 60) (v := .d (.fl undef)) rfl (on rfl rfl rfl h42) ?_
                      refine rg_put (d := 61) (v := .d (.fl undef)) rfl (on rfl rfl rfl h42) ?_
                      refine rg_put (d := 62) (v := .d (.fl undef)) rfl (on rfl rfl rfl h42) ?_
                      refine rg_put (d := 63) (v := .d (.fl undef)) rfl (on rfl rfl rfl h42) ?_
                      refine rg_put (d := 64) (v := .d (.fl (.bool true))) rfl (oy rfl rfl rfl rfl (op_pick rfl rfl (by rw [h42]; rfl) rfl)) ?_
                      refine rg_put (d := 65) (v := .d (.fl (.bool true))) rfl (oy rfl rfl rfl rfl (op_move rfl rfl rfl)) ?_
                      refine rg_put (d := 66) (v := .d (.fl undef)) rfl (on rfl rfl rfl rfl) ?_
                      refine rg_put (d := 67) (v := .d (.fl undef)) rfl (on rfl rfl rfl rfl) ?_
                      refine rg_put (d := 68) (v := .d (.fl undef)) rfl (on rfl rfl rfl rfl) ?_
                      refine rg_put (d := 69) (v := .d (.fl undef)) rfl (on rfl rfl rfl rfl) ?_
                      refine rg_put (d := 70) (v := .d (.fl (.bool true))) rfl (oy rfl rfl rfl rfl (op_pick rfl rfl rfl rfl)) ?_
                      refine rg_put (d := 71) (v := .d (.fl (.bool true))) rfl (og rfl (op_pick rfl rfl rfl rfl)) ?_
                      refine rg_put (d := 72) (v := .d (.fl (.bool true))) rfl (og rfl (op_move rfl rfl rfl)) ?_
                      refine rg_put (d := 73) (v := .d (.fl undef)) rfl (on rfl rfl rfl rfl) ?_
                      refine rg_put (d := 74) (v := .d (.fl undef)) rfl (on rfl rfl rfl rfl) ?_
                      refine rg_put (d := 75) (v := .d (.fl undef)) rfl (on rfl rfl rfl rfl) ?_
                      refine rg_put (d := 76) (v := .d (.fl undef)) rfl (ou rfl rfl rfl) ?_
                      refine rg_put (d := 77) (v := .d (.fl undef)) rfl (ou rfl rfl rfl) ?_
                      refine rg_put (d := 78) (v := .d (.fl undef)) rfl (on rfl rfl rfl rfl) ?_
                      refine rg_put (d := 79) (v := .d (.fl undef)) rfl (on rfl rfl rfl rfl) ?_
                      refine rg_put (d := 80) (v := .d (.fl undef)) rfl (ou rfl rfl rfl) ?_
                      refine rg_put (d := 81) (v := .d (.fl undef)) rfl (ou rfl rfl rfl) ?_
                      refine rg_put (d := 82) (v := .d (.fl undef)) rfl (on rfl rfl rfl rfl) ?_
                      refine rg_put (d := 83) (v := .d (.fl (.bool true))) rfl (og rfl (op_pick rfl rfl rfl rfl)) ?_
                      refine rg_done rfl ?_
                      refine a_condK rfl rfl ?_
                      refine a_rseq ?_
                      refine rg_put (d := 6) (v := .d (.fl (.bool false))) rfl (og rfl (op_assign rfl rfl rfl)) ?_
                      refine rg_done rfl ?_
                      refine a_ret ?_
                      show ∃ ds, ResL _ _ _ ds ∧ RV.of ds = _
                      refine ⟨[.fl (.bool false)], (.cons (.tmp rfl (.d _)) .nil), ?_⟩
                      exfalso; omega
                  · skip
                    have h51 := t_dec h40
                    refine rg_put (d := 56) (v := .d (.fl undef)) rfl (on rfl rfl rfl h40) ?_
                    refine rg_put (d := 57) (v := .d (.fl undef)) rfl (on rfl rfl rfl h40) ?_
                    refine rg_put (d := 58) (v := .d (.fl (.bool true))) rfl (oy rfl rfl rfl rfl (op_pick rfl rfl (by rw [h40]; rfl) rfl)) ?_
                    refine rg_put (d := 59) (v := .d (.fl (.bool true))) rfl (oy rfl rfl rfl rfl (op_move rfl rfl rfl)) ?_
                    refine rg_put (d := 60) (v := .d (.fl undef)) rfl (on rfl rfl rfl rfl) ?_
                    refine rg_put (d := 61) (v := .d (.fl undef)) rfl (on rfl rfl rfl rfl) ?_
                    refine rg_put (d := 62) (v := .d (.fl undef)) rfl (on rfl rfl rfl rfl) ?_
                    refine rg_put (d := 63) (v := .d (.fl undef)) rfl (on rfl rfl rfl rfl) ?_
                    refine rg_put (d := 64) (v := .d (.fl (.bool true))) rfl (oy rfl rfl rfl rfl (op_pick rfl rfl rfl rfl)) ?_
                    refine rg_put (d := 65) (v := .d (.fl (.bool true))) rfl (oy rfl rfl rfl rfl (op_move rfl rfl rfl)) ?_
                    refine rg_put (d := 66) (v := .d (.fl undef)) rfl (on rfl rfl rfl rfl) ?_
                    refine rg_put (d := 67) (v := .d (.fl undef)) rfl (on rfl rfl rfl rfl) ?_
                    refine rg_put (d := 68) (v := .d (.fl undef)) rfl (on rfl rfl rfl rfl) ?_
                    refine rg_put (d := 69) (v := .d (.fl undef)) rfl (on rfl rfl rfl rfl) ?_
                    refine rg_put (d := 70) (v := .d (.fl (.bool true))) rfl (oy rfl rfl rfl rfl (op_pick rfl rfl rfl rfl)) ?_
                    refine rg_put (d := 71) (v := .d (.fl (.bool true))) rfl (og rfl (op_pick rfl rfl rfl rfl)) ?_
                    refine rg_put (d := 72) (v := .d (.fl (.bool true))) rfl (og rfl (op_move rfl rfl rfl)) ?_
                    refine rg_put (d := 73) (v := .d (.fl undef)) rfl (on rfl rfl rfl rfl) ?_
                    refine rg_put (d := 74) (v := .d (.fl undef)) rfl (on rfl rfl rfl rfl) ?_
                    refine rg_put (d := 75) (v := .d (.fl undef)) rfl (on rfl rfl rfl rfl) ?_
                    refine rg_put (d := 76) (v := .d (.fl undef)) rfl (ou rfl rfl rfl) ?_
                    refine rg_put (d := 77) (v := .d (.fl undef)) rfl (ou rfl rfl rfl) ?_
                    refine rg_put (d := 78) (v := .d (.fl undef)) rfl (on rfl rfl rfl rfl) ?_
                    refine rg_put (d := 79) (v := .d (.fl undef)) rfl (on rfl rfl rfl rfl) ?_
                    refine rg_put (d := 80) (v := .d (.fl undef)) rfl (ou rfl rfl rfl) ?_
                    refine rg_put (d := 81) (v := .d (.fl undef)) rfl (ou rfl rfl rfl) ?_
                    refine rg_put (d := 82) (v := .d (.fl undef)) rfl (on rfl rfl rfl rfl) ?_
                    refine rg_put (d := 83) (v := .d (.fl (.bool true))) rfl (og rfl (op_pick rfl rfl rfl rfl)) ?_
                    refine rg_done rfl ?_
                    refine a_condK rfl rfl ?_
                    refine a_rseq ?_
                    refine rg_put (d := 6) (v := .d (.fl (.bool false))) rfl (og rfl (op_assign rfl rfl rfl)) ?_
                    refine rg_done rfl ?_
                    refine a_ret ?_
                    show ∃ ds, ResL _ _ _ ds ∧ RV.of ds = _
                    refine ⟨[.fl (.bool false)], (.cons (.tmp rfl (.d _)) .nil), ?_⟩
                    exfalso; omega
              · skip
                have h52 := t_dec h35
                refine rg_put (d := 43) (v := .d (.fl undef)) rfl (on rfl rfl rfl h35) ?_
                refine rg_put (d := 44) (v := .d (.fl undef)) rfl (on rfl rfl rfl h35) ?_
                refine rg_put (d := 45) (v := .d (.fl (.bool true))) rfl (og rfl (op_pick rfl rfl (by rw [h35]; rfl) rfl)) ?_
                refine rg_done rfl ?_
                refine a_condK rfl rfl ?_
                refine a_seq ?_
                refine a_rseq ?_
                refine rg_put (d := 46) (v := .d (.fl (.bool true))) rfl (og rfl (op_move rfl rfl rfl)) ?_
                refine rg_put (d := 47) (v := .d (.fl (.bool true))) rfl (og rfl (op_move rfl rfl rfl)) ?_
                refine rg_put (d := 48) (v := .d (.fl undef)) rfl (on rfl rfl rfl rfl) ?_
                refine rg_put (d := 49) (v := .d (.fl undef)) rfl (on rfl rfl rfl rfl) ?_
                refine rg_put (d := 50) (v := .d (.fl (.bool true))) rfl (og rfl (op_pick rfl rfl rfl rfl)) ?_
                refine rg_done rfl ?_
                refine a_condK rfl rfl ?_
                refine a_rseq ?_
                refine rg_put (d := 6) (v := .d (.fl (.bool false))) rfl (og rfl (op_assign rfl rfl rfl)) ?_
                refine rg_done rfl ?_
                refine a_ret ?_
                show ∃ ds, ResL _ _ _ ds ∧ RV.of ds = _
                refine ⟨[.fl (.bool false)], (.cons (.tmp rfl (.d _)) .nil), ?_⟩
                exfalso; omega
        · skip
          have h53 := f_dec h7
          refine a_exit ?_
          show A _ _ _ _ _ _ _
          refine a_rseq ?_
          refine rg_put (d := 100) (v := .d (.fl (.bool true))) rfl (og rfl (op_call rfl Try.func7 nm7 rfl .nil awake7 rfl)) ?_
          refine rg_put (d := 6) (v := .d (.fl (.bool true))) rfl (og rfl (op_assign rfl rfl rfl)) ?_
          refine rg_done rfl ?_
          refine a_ret ?_
          show ∃ ds, ResL _ _ _ ds ∧ RV.of ds = _
          refine ⟨[.fl (.bool true)], (.cons (.tmp rfl (.d _)) .nil), ?_⟩
          rfl
    · skip
      have h54 := t_dec h2
      refine rg_put (d := 22) (v := .d (.fl undef)) rfl (on rfl rfl rfl h2) ?_
      refine rg_put (d := 23) (v := .d (.fl undef)) rfl (on rfl rfl rfl h2) ?_
      refine rg_put (d := 24) (v := .d (.fl undef)) rfl (on rfl rfl rfl h2) ?_
      refine rg_put (d := 25) (v := .d (.fl undef)) rfl (on rfl rfl rfl h2) ?_
      refine rg_put (d := 26) (v := .d (.fl (.bool true))) rfl (og rfl (op_pick rfl rfl (by rw [h2]; rfl) rfl)) ?_
      refine rg_done rfl ?_
      refine a_condK rfl rfl ?_
      refine a_rseq ?_
      refine rg_put (d := 27) (v := .d (.fl (.bool true))) rfl (og rfl (op_call rfl Try.func7 nm7 rfl .nil awake7 rfl)) ?_
      refine rg_put (d := 6) (v := .d (.fl (.bool true))) rfl (og rfl (op_assign rfl rfl rfl)) ?_
      refine rg_done rfl ?_
      refine a_ret ?_
      show ∃ ds, ResL _ _ _ ds ∧ RV.of ds = _
      refine ⟨[.fl (.bool true)], (.cons (.tmp rfl (.d _)) .nil), ?_⟩
      rfl
  · skip
    refine rg_put (d := 16) (v := .d (.fl undef)) rfl (on rfl rfl rfl h1) ?_
    refine rg_put (d := 17) (v := .d (.fl undef)) rfl (on rfl rfl rfl h1) ?_
    refine rg_put (d := 18) (v := .d (.fl undef)) rfl (on rfl rfl rfl h1) ?_
    refine rg_put (d := 19) (v := .d (.fl undef)) rfl (on rfl rfl rfl h1) ?_
    refine rg_put (d := 20) (v := .d (.fl (.bool true))) rfl (og rfl (op_pick rfl rfl (by rw [h1]; rfl) rfl)) ?_
    refine rg_put (d := 21) (v := .d (.fl (.bool true))) rfl (og rfl (op_move rfl rfl rfl)) ?_
    refine rg_put (d := 22) (v := .d (.fl undef)) rfl (on rfl rfl rfl rfl) ?_
    refine rg_put (d := 23) (v := .d (.fl undef)) rfl (on rfl rfl rfl rfl) ?_
    refine rg_put (d := 24) (v := .d (.fl undef)) rfl (on rfl rfl rfl rfl) ?_
    refine rg_put (d := 25) (v := .d (.fl undef)) rfl (on rfl rfl rfl rfl) ?_
    refine rg_put (d := 26) (v := .d (.fl (.bool true))) rfl (og rfl (op_pick rfl rfl rfl rfl)) ?_
    refine rg_done rfl ?_
    refine a_condK rfl rfl ?_
    refine a_rseq ?_
    refine rg_put (d := 27) (v := .d (.fl (.bool true))) rfl (og rfl (op_call rfl Try.func7 nm7 rfl .nil awake7 rfl)) ?_
    refine rg_put (d := 6) (v := .d (.fl (.bool true))) rfl (og rfl (op_assign rfl rfl rfl)) ?_
    refine rg_done rfl ?_
    refine a_ret ?_
    show ∃ ds, ResL _ _ _ ds ∧ RV.of ds = _
    refine ⟨[.fl (.bool true)], (.cons (.tmp rfl (.d _)) .nil), ?_⟩
    rfl
end Go.Proofs.Ytajhpdmbmipboaa.Wk
