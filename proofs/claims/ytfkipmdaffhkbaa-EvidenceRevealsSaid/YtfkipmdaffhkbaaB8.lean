/- Packages are built and extended. Condition: packages of a possible size. -/
import Derived.Test.YtfkipmdaffhkbaaB7
set_option linter.unusedSimpArgs false
set_option linter.unusedVariables false
namespace Go.Proofs.Ytfkipmdaffhkbaa.Wk
open Go Go.RowKit Go.Proofs.Ytfkipmdaffhkbaa.Av
theorem bld_form {id : ByteArray} {l : List Im} (h : isF id = false) : bld id l = (zPk, 5) := by unfold bld; rw [h]; rfl
theorem bld_lim {id : ByteArray} {l : List Im} (h : isF id = true) (h2 : decide ((1024 : Int) < (l.length : Int)) = true) : bld id l = (zPk, 3) := by unfold bld; rw [h, h2]; rfl
theorem bld_err {id : ByteArray} {l : List Im} {e : Int} (h : isF id = true) (h2 : decide ((1024 : Int) < (l.length : Int)) = false) (h3 : bE l = e) (h4 : e ≠ 0) : bld id l = (zPk, e) := by unfold bld; rw [h, h2, h3, if_pos h4]; rfl
theorem bld_ok {id : ByteArray} {l : List Im} (h : isF id = true) (h2 : decide ((1024 : Int) < (l.length : Int)) = false) (h3 : bE l = 0) : bld id l = (⟨id, l, fits id l⟩, 0) := by unfold bld; rw [h, h2, h3, if_neg (by simp)]; rfl
theorem bE_go (l : List Im) : bE l = fe (bk l) 0 (l.length - 0) := rfl
theorem add_sum {p : Pk} {im : Im} (h : lEq p.chain (fits p.case p.images) = false) : add p im = (p, 8) := by unfold add; rw [h]; rfl
theorem add_lim {p : Pk} {im : Im} (h : lEq p.chain (fits p.case p.images) = true) (h2 : decide ((1024 : Int) ≤ (p.images.length : Int)) = true) : add p im = (p, 3) := by unfold add; rw [h, h2]; rfl
theorem add_err {p : Pk} {im : Im} {e : Int} (h : lEq p.chain (fits p.case p.images) = true) (h2 : decide ((1024 : Int) ≤ (p.images.length : Int)) = false) (h3 : chB p.images im = e) (h4 : e ≠ 0) : add p im = (p, e) := by unfold add; rw [h, h2, h3, if_pos h4]; rfl
theorem add_ok {p : Pk} {im : Im} (h : lEq p.chain (fits p.case p.images) = true) (h2 : decide ((1024 : Int) ≤ (p.images.length : Int)) = false) (h3 : chB p.images im = 0) : add p im = (⟨p.case, p.images ++ [im], fits p.case (p.images ++ [im])⟩, 0) := by unfold add; rw [h, h2, h3, if_neg (by simp)]; rfl
theorem lEq_eq {α : Type} [DecidableEq α] {a b : List α} (h : lEq a b = true) : a = b := of_decide_eq_true h
theorem ix_app {α : Type} [Inhabited α] {l r : List α} {k : Nat} (h : k < l.length) : ix (l ++ r) k = ix l k := by unfold ix; rw [List.getD_eq_getElem?_getD, List.getD_eq_getElem?_getD, List.getElem?_append_left h]
theorem ix_snoc {α : Type} [Inhabited α] (l : List α) (x : α) : ix (l ++ [x]) l.length = x := by unfold ix; simp [List.getD]
theorem cl_app {x : Int} {L : List (List Int)} {r : List (List Int)} : ∀ k, k ≤ L.length → cl x (L ++ r) k = cl x L k
  | 0, _ => rfl
  | k + 1, h => by show jn _ _ = jn _ _; rw [cl_app k (by omega), ix_app (by omega)]
theorem co_app {x : Int} {L : List (List Int)} {r : List (List Int)} : ∀ k, k ≤ L.length → co x (L ++ r) k = co x L k
  | 0, _ => rfl
  | k + 1, h => by show co x (L ++ r) k ++ [cl x (L ++ r) (k + 1)] = co x L k ++ [cl x L (k + 1)]; rw [co_app k (by omega), cl_app (k + 1) h]
theorem ix_co {x : Int} {L : List (List Int)} : ∀ k j, j < k → ix (co x L k) j = cl x L (j + 1)
  | 0, j, h => by omega
  | k + 1, j, h => by
    show ix (co x L k ++ [cl x L (k + 1)]) j = _
    rcases Nat.lt_succ_iff_lt_or_eq.1 h with h1 | h1
    · rw [ix_app (by rw [co_len]; exact h1), ix_co k j h1]
    · subst h1
      have := ix_snoc (co x L j) (cl x L (j + 1))
      rw [co_len] at this
      exact this
theorem chn_snoc (x : Int) (L : List (List Int)) (b : List Int) : chn x (L ++ [b]) = chn x L ++ [jn (cl x L L.length) (hsh b)] := by
  unfold chn
  rw [List.length_append, List.length_singleton]
  show co x (L ++ [b]) L.length ++ [jn (cl x (L ++ [b]) L.length) (hsh (ix (L ++ [b]) L.length))] = _
  rw [co_app L.length (Nat.le_refl _), cl_app L.length (Nat.le_refl _), ix_snoc]
def lastD (id : ByteArray) (l : List Im) : Int := cl (hsh (bys id)) (l.map dsc) l.length
theorem last_zero {id : ByteArray} {l : List Im} (h : ¬ (0 : Int) < (l.length : Int)) : hsh (bys id) = lastD id l := by
  have : l.length = 0 := by omega
  unfold lastD; rw [this]; rfl
theorem last_pos {id : ByteArray} {l : List Im} {k : Nat} (h : k + 1 = l.length) : ix (fits id l) k = lastD id l := by
  unfold lastD fits chn
  rw [List.length_map, ← h]
  exact ix_co (k + 1) k (by omega)
theorem fits_snoc (id : ByteArray) (l : List Im) (im : Im) : fits id (l ++ [im]) = fits id l ++ [jn (lastD id l) (dgI im)] := by
  unfold fits lastD dgI
  rw [List.map_append, List.map_cons, List.map_nil, chn_snoc, List.length_map]
theorem tD_setI (k : IntKind) (X : List Int) (n : Nat) (v : Int) : (tD (rI k) X).set n [.dv (.fl (.int k v))] = tD (rI k) (X.set n v) := by
  unfold tD; rw [List.map_set, List.map_set]; rfl
theorem set_last {c : List Int} {n : Nat} {v : Int} (h : c.length = n) : (c ++ List.drop c.length (List.replicate (n + 1) 0)).set n v = c ++ [v] := by
  subst h
  rw [List.drop_replicate, List.set_append_right _ _ (Nat.le_refl _)]
  simp
theorem dgI_in (im : Im) : 0 ≤ dgI im ∧ dgI im ≤ 18446744073709551615 := hsh_in _

set_option maxHeartbeats 4000000 in
set_option maxRecDepth 100000 in
theorem build15 (id : ByteArray) (l : List Im) (hid : id.size ≤ 1000) (hl : l.length ≤ 3000) (hO : ∀ im ∈ l, Okd im) : Ctr Try.prog 15 [.fl (.string id), .sl 5 (List.map eIm l)] (.tu [.ag (ePk (bld id l).1), .fl (.int .i64 (bld id l).2)]) := by
  refine ctr (n := 47) (rs := #[.cell 4 33, .tmp 5]) (L := [(0, .d (.fl (.string id))), (1, .d (.sl 5 (List.map eIm l)))]) Try.func15 rfl rfl rfl rfl rfl (fun w0 U0 => ?_)
  refine a_rseq ?_
  refine rg_nam (d := 4) (v := .pt 101 0) (m := 101) (nw := [(101, .bx 33 ([.fl (.string (⟨#[]⟩)), .fl (.slice none 0 0), .fl (.slice none 0 0)]))]) rfl (og rfl (of_eff (s_alloc 101 rfl ti33 (by kernel_rfl) rfl) rfl)) rfl ?_
  refine rg_put (d := 5) (v := .d (.fl (.int .i64 0))) rfl (og rfl (op_assign rfl rfl rfl)) ?_
  refine rg_done rfl ?_
  refine a_seq ?_
  refine a_rseq ?_
  refine rg_put (d := 10) (v := .d (.fl (.string id))) rfl (og rfl (op_move rfl rfl rfl)) ?_
  refine rg_put (d := 11) (v := .d (.fl (.bool (isF id)))) rfl (og rfl (op_call rfl Try.func32 nm32 rfl (.cons rfl (.d _) .nil) (isF32 id) rfl)) ?_
  refine rg_put (d := 12) (v := .d (.fl (.bool ((!(isF id)))))) rfl (og rfl (op_un rfl rfl (u_not _) rfl)) ?_
  refine rg_done rfl ?_
  refine a_cond rfl (fun h1 => ?_) (fun h1 => ?_)
  · skip
    have h2 := t_not h1
    refine a_rseq ?_
    refine rg_put (d := 13) (v := .d (.ag [.fl (.string (⟨#[]⟩)), .fl (.slice none 0 0), .fl (.slice none 0 0)])) rfl (og rfl (of_eff (op_build rfl Try.underlying33 ti33 rfl (by kernel_rfl) (by kernel_rfl) (pl := #[(0, 1), (1, 1), (2, 1)]) (by kernel_rfl) .nil rfl) rfl)) ?_
    refine rg_sto (nw := [(101, .bx 33 ([.fl (.string (⟨#[]⟩)), .fl (.slice none 0 0), .fl (.slice none 0 0)]))]) rfl (og rfl (of_eff (s_store rfl rfl ti33 rfl rfl rfl rfl rfl rfl) rfl)) ?_
    refine rg_put (d := 5) (v := .d (.fl (.int .i64 5))) rfl (og rfl (op_assign rfl rfl rfl)) ?_
    refine rg_done rfl ?_
    refine a_ret ?_
    show ∃ ds, ResL _ _ _ ds ∧ RV.of ds = _
    refine ⟨[.ag [.fl (.string (⟨#[]⟩)), .sl 5 (List.map eIm []), .sl 1 (List.map (rI .u64) [])], .fl (.int .i64 5)], (.cons (.cellT rfl rfl Try.underlying33 rfl ti33 rfl (Cv.ag (xs := [.fl (.string (⟨#[]⟩)), .fl (.slice none 0 0), .fl (.slice none 0 0)]) (ys := [.fl (.string (⟨#[]⟩)), .sl 5 (List.map eIm []), .sl 1 (List.map (rI .u64) [])]) ⟨Cv.refl _, Cv.nil _, Cv.nil _, trivial⟩)) (.cons (.tmp rfl (.d _)) .nil)), ?_⟩
    rw [bld_form h2]; rfl
  · skip
    have h3 := f_not h1
    refine a_skip ?_
    show A _ _ _ _ _ _ _
    refine a_seq ?_
    refine a_rseq ?_
    refine rg_put (d := 14) (v := .d (.sl 5 (List.map eIm l))) rfl (og rfl (op_move rfl rfl rfl)) ?_
    refine rg_put (d := 15) (v := .d (.fl (.int .i64 (l.length : Int)))) rfl (og rfl (s_len rfl Try.underlying29 rfl rfl)) ?_
    refine rg_put (d := 16) (v := .d (.fl (.bool ((decide (1024 < (l.length : Int))))))) rfl (og rfl (op_bin rfl rfl rfl (b_gtr _ _ _ _) rfl)) ?_
    refine rg_done rfl ?_
    refine a_cond rfl (fun h4 => ?_) (fun h4 => ?_)
    · skip
      have h5 := t_dec h4
      refine a_rseq ?_
      refine rg_put (d := 17) (v := .d (.ag [.fl (.string (⟨#[]⟩)), .fl (.slice none 0 0), .fl (.slice none 0 0)])) rfl (og rfl (of_eff (op_build rfl Try.underlying33 ti33 rfl (by kernel_rfl) (by kernel_rfl) (pl := #[(0, 1), (1, 1), (2, 1)]) (by kernel_rfl) .nil rfl) rfl)) ?_
      refine rg_sto (nw := [(101, .bx 33 ([.fl (.string (⟨#[]⟩)), .fl (.slice none 0 0), .fl (.slice none 0 0)]))]) rfl (og rfl (of_eff (s_store rfl rfl ti33 rfl rfl rfl rfl rfl rfl) rfl)) ?_
      refine rg_put (d := 5) (v := .d (.fl (.int .i64 3))) rfl (og rfl (op_assign rfl rfl rfl)) ?_
      refine rg_done rfl ?_
      refine a_ret ?_
      show ∃ ds, ResL _ _ _ ds ∧ RV.of ds = _
      refine ⟨[.ag [.fl (.string (⟨#[]⟩)), .sl 5 (List.map eIm []), .sl 1 (List.map (rI .u64) [])], .fl (.int .i64 3)], (.cons (.cellT rfl rfl Try.underlying33 rfl ti33 rfl (Cv.ag (xs := [.fl (.string (⟨#[]⟩)), .fl (.slice none 0 0), .fl (.slice none 0 0)]) (ys := [.fl (.string (⟨#[]⟩)), .sl 5 (List.map eIm []), .sl 1 (List.map (rI .u64) [])]) ⟨Cv.refl _, Cv.nil _, Cv.nil _, trivial⟩)) (.cons (.tmp rfl (.d _)) .nil)), ?_⟩
      rw [bld_lim h3 h4]; rfl
    · skip
      have h6 := f_dec h4
      refine a_skip ?_
      show A _ _ _ _ _ _ _
      refine a_rseq ?_
      refine rg_nam (d := 18) (v := .ow 102) (m := 102) (nw := [(102, .mp [])]) rfl (og rfl (op_makeMap 102 rfl rfl)) rfl ?_
      refine rg_put (d := 6) (v := .ow 102) rfl (og rfl (op_assign rfl rfl rfl)) ?_
      refine rg_done rfl ?_
      refine a_seq ?_
      refine a_rseq ?_
      refine rg_put (d := 19) (v := .d (.sl 5 (List.map eIm l))) rfl (og rfl (op_move rfl rfl rfl)) ?_
      refine rg_put (d := 20) (v := .d (.fl (.int .i64 (l.length : Int)))) rfl (og rfl (s_len rfl Try.underlying29 rfl rfl)) ?_
      refine rg_put (d := 21) (v := .d (.fl (.int .i64 0))) rfl (og rfl (op_move rfl rfl rfl)) ?_
      refine rg_done rfl ?_
      refine a_block ?_
      refine a_loop (ι := Nat) (fun k => SS [(0, .d (.fl (.string id))), (1, .d (.sl 5 (List.map eIm l))), (4, .pt 101 0), (6, .ow 102), (12, .d (.fl (.bool ((!(isF id)))))), (16, .d (.fl (.bool ((decide (1024 < (l.length : Int))))))), (19, .d (.sl 5 (List.map eIm l))), (20, .d (.fl (.int .i64 (l.length : Int)))), (21, .d (.fl (.int .i64 (k : Int))))] [(101, .bx 33 ([.fl (.string (⟨#[]⟩)), .fl (.slice none 0 0), .fl (.slice none 0 0)])), (102, .mp ((setI (l.take k))))]) (fun k => k ≤ l.length ∧ bE l = fe (bk l) k (l.length - k)) (fun k => l.length - k) 0 (⟨by omega, bE_go l⟩) (imp_forget rfl ⟨rfl, rfl, rfl, rfl, rfl, rfl, rfl, rfl, (by first | rfl | exact ci (by omega) | exact ci (by simp) | exact cd (by simp) | simp), trivial⟩ ⟨rfl, (by first | rfl | simp), trivial⟩) (fun k hok => ?_)
      obtain ⟨hk, hc⟩ := hok
      refine a_rseq ?_
      refine rg_put (d := 22) (v := .d (.fl (.bool ((decide ((k : Int) < (l.length : Int))))))) rfl (og rfl (op_bin rfl rfl rfl (b_lss _ _ _ _) rfl)) ?_
      refine rg_done rfl ?_
      refine a_seq ?_
      refine a_cond rfl (fun h7 => ?_) (fun h7 => ?_)
      · skip
        have h8 := t_dec h7
        refine a_skip ?_
        show A _ _ _ _ _ _ _
        refine a_seq ?_
        refine a_block ?_
        refine a_rseq ?_
        refine rg_put (d := 23) (v := .el ((eIm (ix l k)))) rfl (og rfl (s_index rfl Try.underlying29 ti25 rfl rfl (by omega) (row_at (by omega)) rfl)) ?_
        refine rg_put (d := 24) (v := .d (.ag (eIm (ix l k)))) rfl (og rfl (of_eff (s_load_els rfl Try.underlying25 rfl ti25 rfl rfl rfl) rfl)) ?_
        refine rg_nam (d := 8) (v := .pt 103 0) (m := 103) (nw := [(103, .bx 25 ([.fl (.string (⟨#[]⟩)), .fl (.int .i64 0), .fl (.int .i64 0), .fl (.slice none 0 0), .fl (.int .u64 0)]))]) rfl (og rfl (of_eff (s_alloc 103 rfl ti25 (by kernel_rfl) rfl) rfl)) rfl ?_
        refine rg_sto (nw := [(103, .bx 25 ((eIm (ix l k))))]) rfl (og rfl (of_eff (s_store rfl rfl ti25 rfl rfl rfl rfl rfl rfl) rfl)) ?_
        refine rg_done rfl ?_
        refine a_seq ?_
        refine a_rseq ?_
        refine rg_put (d := 25) (v := .d (.ag (eIm (ix l k)))) rfl (og rfl (of_eff (s_load_pts rfl Try.underlying25 rfl ti25 rfl rfl rfl rfl) rfl)) ?_
        refine rg_put (d := 26) (v := .d (.fl (.int .i64 ((chI (ix l k)))))) rfl (og rfl (op_call rfl Try.func33 nm33 rfl (.cons rfl (.d _) .nil) (check33 (ix l k)) rfl)) ?_
        refine rg_put (d := 9) (v := .d (.fl (.int .i64 ((chI (ix l k)))))) rfl (og rfl (op_assign rfl rfl rfl)) ?_
        refine rg_done rfl ?_
        refine a_rseq ?_
        refine rg_put (d := 27) (v := .d (.fl (.int .i64 ((chI (ix l k)))))) rfl (og rfl (op_move rfl rfl rfl)) ?_
        refine rg_put (d := 28) (v := .d (.fl (.bool (((chI (ix l k)) != 0))))) rfl (og rfl (op_bin rfl rfl rfl (b_neq _ _ _ _) rfl)) ?_
        refine rg_done rfl ?_
        refine a_cond rfl (fun h9 => ?_) (fun h9 => ?_)
        · skip
          have h10 := t_bne h9
          refine a_rseq ?_
          refine rg_put (d := 29) (v := .d (.ag [.fl (.string (⟨#[]⟩)), .fl (.slice none 0 0), .fl (.slice none 0 0)])) rfl (og rfl (of_eff (op_build rfl Try.underlying33 ti33 rfl (by kernel_rfl) (by kernel_rfl) (pl := #[(0, 1), (1, 1), (2, 1)]) (by kernel_rfl) .nil rfl) rfl)) ?_
          refine rg_put (d := 30) (v := .d (.fl (.int .i64 ((chI (ix l k)))))) rfl (og rfl (op_move rfl rfl rfl)) ?_
          refine rg_sto (nw := [(101, .bx 33 ([.fl (.string (⟨#[]⟩)), .fl (.slice none 0 0), .fl (.slice none 0 0)]))]) rfl (og rfl (of_eff (s_store rfl rfl ti33 rfl rfl rfl rfl rfl rfl) rfl)) ?_
          refine rg_put (d := 5) (v := .d (.fl (.int .i64 ((chI (ix l k)))))) rfl (og rfl (op_assign rfl rfl rfl)) ?_
          refine rg_done rfl ?_
          refine a_ret ?_
          show ∃ ds, ResL _ _ _ ds ∧ RV.of ds = _
          refine ⟨[.ag [.fl (.string (⟨#[]⟩)), .sl 5 (List.map eIm []), .sl 1 (List.map (rI .u64) [])], .fl (.int .i64 ((chI (ix l k))))], (.cons (.cellT rfl rfl Try.underlying33 rfl ti33 rfl (Cv.ag (xs := [.fl (.string (⟨#[]⟩)), .fl (.slice none 0 0), .fl (.slice none 0 0)]) (ys := [.fl (.string (⟨#[]⟩)), .sl 5 (List.map eIm []), .sl 1 (List.map (rI .u64) [])]) ⟨Cv.refl _, Cv.nil _, Cv.nil _, trivial⟩)) (.cons (.tmp rfl (.d _)) .nil)), ?_⟩
          have hb : bk l k = chI (ix l k) := by unfold bk chB; simp only [h9]; rfl
          rw [bld_err h3 h4 (fe_yes (by omega) hc hb (t_bne h9)) (t_bne h9)]; rfl
        · skip
          have h11 := f_bne h9
          refine a_skip ?_
          show A _ _ _ _ _ _ _
          refine a_seq ?_
          refine a_rseq ?_
          refine rg_put (d := 31) (v := .ow 102) rfl (og rfl (op_move rfl rfl rfl)) ?_
          refine rg_put (d := 32) (v := .pt 103 0) rfl (og rfl (of_eff (s_field_pt rfl Try.underlying25 rfl ti9 rfl rfl rfl) rfl)) ?_
          refine rg_put (d := 33) (v := .d (.fl (.string ((ix l k).id)))) rfl (og rfl (op_load_pt rfl Try.underlying9 rfl rfl rfl rfl rfl)) ?_
          rcases fot ((dupI (l.take k) ((ix l k).id))) with h12 | h12
          · skip
            refine rg_put (d := 34) (v := .d (.fl (.bool false))) rfl (og rfl (op_lookup1 rfl Try.underlying56 Try.underlying9 rfl ti4 rfl rfl (.ow rfl) rfl (r := none) ((mfind_set Im.id _ _).trans (by rw [show (List.any _ _) = _ from h12]; rfl)) rfl rfl)) ?_
            refine rg_done rfl ?_
            refine a_condF rfl rfl ?_
            refine a_skip ?_
            show A _ _ _ _ _ _ _
            refine a_region ?_
            refine rg_put (d := 36) (v := .ow 102) rfl (og rfl (op_move rfl rfl rfl)) ?_
            refine rg_put (d := 37) (v := .pt 103 0) rfl (og rfl (of_eff (s_field_pt rfl Try.underlying25 rfl ti9 rfl rfl rfl) rfl)) ?_
            refine rg_put (d := 38) (v := .d (.fl (.string ((ix l k).id)))) rfl (og rfl (op_load_pt rfl Try.underlying9 rfl rfl rfl rfl rfl)) ?_
            refine rg_sto (nw := [(102, .mp ((setI (l.take k)) ++ [((.string ((ix l k).id)), .fl (.bool true))]))]) rfl (og rfl (op_mapPush rfl rfl Try.underlying56 Try.underlying9 rfl rfl rfl rfl ((mfind_set Im.id _ _).trans (by rw [show (List.any _ _) = _ from h12]; rfl)) rfl)) ?_
            refine rg_done rfl ?_
            show A _ _ _ _ _ _ _
            refine a_region ?_
            refine rg_put (d := 39) (v := .d (.fl (.int .i64 (((k : Int) + 1))))) rfl (og rfl (op_bin rfl rfl rfl (fun x y w => b_add64 _ _ _ x y w (by omega)) rfl)) ?_
            refine rg_put (d := 21) (v := .d (.fl (.int .i64 (((k : Int) + 1))))) rfl (og rfl (op_move rfl rfl rfl)) ?_
            refine rg_done rfl ?_
            have hb : bk l k = 0 := by unfold bk chB; simp only [h9, h12]; rfl
            show ∃ i, _ ∧ _ ∧ Imp _ _ _ _ _
            refine ⟨k + 1, ⟨by omega, fe_no (by omega) hc hb⟩, by omega, imp_forget rfl ⟨rfl, rfl, rfl, rfl, rfl, rfl, rfl, rfl, (by first | rfl | exact ci (by omega) | exact ci (by simp) | exact cd (by simp) | simp), trivial⟩ ⟨rfl, (congrArg Ob.mp (setI_take (by omega))), trivial⟩⟩
          · skip
            refine rg_put (d := 34) (v := .d (.fl (.bool true))) rfl (og rfl (op_lookup1 rfl Try.underlying56 Try.underlying9 rfl ti4 rfl rfl (.ow rfl) rfl (r := (some (.fl (.bool true)))) ((mfind_set Im.id _ _).trans (by rw [show (List.any _ _) = _ from h12]; rfl)) rfl rfl)) ?_
            refine rg_done rfl ?_
            refine a_condK rfl rfl ?_
            refine a_rseq ?_
            refine rg_put (d := 35) (v := .d (.ag [.fl (.string (⟨#[]⟩)), .fl (.slice none 0 0), .fl (.slice none 0 0)])) rfl (og rfl (of_eff (op_build rfl Try.underlying33 ti33 rfl (by kernel_rfl) (by kernel_rfl) (pl := #[(0, 1), (1, 1), (2, 1)]) (by kernel_rfl) .nil rfl) rfl)) ?_
            refine rg_sto (nw := [(101, .bx 33 ([.fl (.string (⟨#[]⟩)), .fl (.slice none 0 0), .fl (.slice none 0 0)]))]) rfl (og rfl (of_eff (s_store rfl rfl ti33 rfl rfl rfl rfl rfl rfl) rfl)) ?_
            refine rg_put (d := 5) (v := .d (.fl (.int .i64 9))) rfl (og rfl (op_assign rfl rfl rfl)) ?_
            refine rg_done rfl ?_
            refine a_ret ?_
            show ∃ ds, ResL _ _ _ ds ∧ RV.of ds = _
            refine ⟨[.ag [.fl (.string (⟨#[]⟩)), .sl 5 (List.map eIm []), .sl 1 (List.map (rI .u64) [])], .fl (.int .i64 9)], (.cons (.cellT rfl rfl Try.underlying33 rfl ti33 rfl (Cv.ag (xs := [.fl (.string (⟨#[]⟩)), .fl (.slice none 0 0), .fl (.slice none 0 0)]) (ys := [.fl (.string (⟨#[]⟩)), .sl 5 (List.map eIm []), .sl 1 (List.map (rI .u64) [])]) ⟨Cv.refl _, Cv.nil _, Cv.nil _, trivial⟩)) (.cons (.tmp rfl (.d _)) .nil)), ?_⟩
            have hb : bk l k = 9 := by unfold bk chB; simp only [h9, h12]; rfl
            rw [bld_err h3 h4 (fe_yes (by omega) hc hb (by decide)) (by decide)]; rfl
      · skip
        have h13 := f_dec h7
        refine a_exit ?_
        show A _ _ _ _ _ _ _
        refine a_rseq ?_
        refine rg_put (d := 40) (v := .d (.fl (.string id))) rfl (og rfl (op_move rfl rfl rfl)) ?_
        refine rg_put (d := 41) (v := .d (.sl 5 (List.map eIm l))) rfl (og rfl (op_move rfl rfl rfl)) ?_
        refine rg_nam (d := 42) (v := .ow 104) (m := 104) (nw := [(104, .ow 25 5 (List.map eIm l))]) rfl (og rfl (op_callW 104 rfl Try.func34 nm34 rfl (.cons rfl (.d _) .nil) (imagesW l (by omega) hO) rfl)) rfl ?_
        refine rg_put (d := 43) (v := .d (.fl (.string id))) rfl (og rfl (op_move rfl rfl rfl)) ?_
        refine rg_put (d := 44) (v := .d (.sl 5 (List.map eIm l))) rfl (og rfl (op_move rfl rfl rfl)) ?_
        refine rg_put (d := 45) (v := .d (.sl 1 (List.map (rI .u64) (fits id l)))) rfl (og rfl (op_call rfl Try.func35 nm35 rfl (.cons rfl (.d _) (.cons rfl (.d _) .nil)) (fits35 id l (by omega) (by first | omega | (simp only [List.length_append, List.length_cons, List.length_nil]; omega)) hO) rfl)) ?_
        refine rg_put (d := 46) (v := .d (.ag (ePk ((Pk.mk id l (fits id l)))))) rfl (og rfl (of_eff (op_build rfl Try.underlying33 ti33 rfl (by kernel_rfl) (by kernel_rfl) (pl := #[(0, 1), (1, 1), (2, 1)]) (by kernel_rfl) (.cons rfl rfl (.d _) rfl rfl rfl (.cons rfl rfl (.ow rfl) rfl rfl rfl (.cons rfl rfl (.d _) rfl rfl rfl .nil))) rfl) rfl)) ?_
        refine rg_sto (nw := [(101, .bx 33 ((ePk ((Pk.mk id l (fits id l))))))]) rfl (og rfl (of_eff (s_store rfl rfl ti33 rfl rfl rfl rfl rfl rfl) rfl)) ?_
        refine rg_put (d := 5) (v := .d (.fl (.int .i64 0))) rfl (og rfl (op_assign rfl rfl rfl)) ?_
        refine rg_done rfl ?_
        refine a_ret ?_
        show ∃ ds, ResL _ _ _ ds ∧ RV.of ds = _
        refine ⟨[.ag [.fl (.string (((Pk.mk id l (fits id l))).case)), .sl 5 (List.map eIm (((Pk.mk id l (fits id l))).images)), .sl 1 (List.map (rI .u64) (((Pk.mk id l (fits id l))).chain))], .fl (.int .i64 0)], (.cons (.cellT rfl rfl Try.underlying33 rfl ti33 rfl (Cv.ag (xs := [.fl (.string (((Pk.mk id l (fits id l))).case)), .sl 5 (List.map eIm (((Pk.mk id l (fits id l))).images)), .sl 1 (List.map (rI .u64) (((Pk.mk id l (fits id l))).chain))]) (ys := [.fl (.string (((Pk.mk id l (fits id l))).case)), .sl 5 (List.map eIm (((Pk.mk id l (fits id l))).images)), .sl 1 (List.map (rI .u64) (((Pk.mk id l (fits id l))).chain))]) ⟨Cv.refl _, Cv.refl _, Cv.refl _, trivial⟩)) (.cons (.tmp rfl (.d _)) .nil)), ?_⟩
        rw [fe_end (by omega)] at hc
        rw [bld_ok h3 h4 hc]; rfl
set_option maxHeartbeats 4000000 in
set_option maxRecDepth 100000 in
theorem build16 (id : ByteArray) (l : List Im) (hid : id.size ≤ 1000) (hl : l.length ≤ 3000) (hO : ∀ im ∈ l, Okd im) : Ctr Try.prog 16 [.fl (.string id), .sl 5 (List.map eIm l)] (.tu [.ag (ePk (bld id l).1), .fl (.int .i64 (bld id l).2)]) := by
  refine ctr (n := 40) (rs := #[.cell 4 33, .tmp 5]) (L := [(0, .d (.fl (.string id))), (1, .d (.sl 5 (List.map eIm l)))]) Try.func16 rfl rfl rfl rfl rfl (fun w0 U0 => ?_)
  refine a_rseq ?_
  refine rg_nam (d := 4) (v := .pt 101 0) (m := 101) (nw := [(101, .bx 33 ([.fl (.string (⟨#[]⟩)), .fl (.slice none 0 0), .fl (.slice none 0 0)]))]) rfl (og rfl (of_eff (s_alloc 101 rfl ti33 (by kernel_rfl) rfl) rfl)) rfl ?_
  refine rg_put (d := 5) (v := .d (.fl (.int .i64 0))) rfl (og rfl (op_assign rfl rfl rfl)) ?_
  refine rg_done rfl ?_
  refine a_seq ?_
  refine a_rseq ?_
  refine rg_put (d := 8) (v := .d (.fl (.string id))) rfl (og rfl (op_move rfl rfl rfl)) ?_
  refine rg_put (d := 9) (v := .d (.fl (.bool (isF id)))) rfl (og rfl (op_call rfl Try.func36 nm36 rfl (.cons rfl (.d _) .nil) (isF36 id) rfl)) ?_
  refine rg_put (d := 10) (v := .d (.fl (.bool ((!(isF id)))))) rfl (og rfl (op_un rfl rfl (u_not _) rfl)) ?_
  refine rg_done rfl ?_
  refine a_cond rfl (fun h1 => ?_) (fun h1 => ?_)
  · skip
    have h2 := t_not h1
    refine a_rseq ?_
    refine rg_put (d := 11) (v := .d (.ag [.fl (.string (⟨#[]⟩)), .fl (.slice none 0 0), .fl (.slice none 0 0)])) rfl (og rfl (of_eff (op_build rfl Try.underlying33 ti33 rfl (by kernel_rfl) (by kernel_rfl) (pl := #[(0, 1), (1, 1), (2, 1)]) (by kernel_rfl) .nil rfl) rfl)) ?_
    refine rg_sto (nw := [(101, .bx 33 ([.fl (.string (⟨#[]⟩)), .fl (.slice none 0 0), .fl (.slice none 0 0)]))]) rfl (og rfl (of_eff (s_store rfl rfl ti33 rfl rfl rfl rfl rfl rfl) rfl)) ?_
    refine rg_put (d := 5) (v := .d (.fl (.int .i64 5))) rfl (og rfl (op_assign rfl rfl rfl)) ?_
    refine rg_done rfl ?_
    refine a_ret ?_
    show ∃ ds, ResL _ _ _ ds ∧ RV.of ds = _
    refine ⟨[.ag [.fl (.string (⟨#[]⟩)), .sl 5 (List.map eIm []), .sl 1 (List.map (rI .u64) [])], .fl (.int .i64 5)], (.cons (.cellT rfl rfl Try.underlying33 rfl ti33 rfl (Cv.ag (xs := [.fl (.string (⟨#[]⟩)), .fl (.slice none 0 0), .fl (.slice none 0 0)]) (ys := [.fl (.string (⟨#[]⟩)), .sl 5 (List.map eIm []), .sl 1 (List.map (rI .u64) [])]) ⟨Cv.refl _, Cv.nil _, Cv.nil _, trivial⟩)) (.cons (.tmp rfl (.d _)) .nil)), ?_⟩
    rw [bld_form h2]; rfl
  · skip
    have h3 := f_not h1
    refine a_skip ?_
    show A _ _ _ _ _ _ _
    refine a_seq ?_
    refine a_rseq ?_
    refine rg_put (d := 12) (v := .d (.sl 5 (List.map eIm l))) rfl (og rfl (op_move rfl rfl rfl)) ?_
    refine rg_put (d := 13) (v := .d (.fl (.int .i64 (l.length : Int)))) rfl (og rfl (s_len rfl Try.underlying29 rfl rfl)) ?_
    refine rg_put (d := 14) (v := .d (.fl (.bool ((decide (1024 < (l.length : Int))))))) rfl (og rfl (op_bin rfl rfl rfl (b_gtr _ _ _ _) rfl)) ?_
    refine rg_done rfl ?_
    refine a_cond rfl (fun h4 => ?_) (fun h4 => ?_)
    · skip
      have h5 := t_dec h4
      refine a_rseq ?_
      refine rg_put (d := 15) (v := .d (.ag [.fl (.string (⟨#[]⟩)), .fl (.slice none 0 0), .fl (.slice none 0 0)])) rfl (og rfl (of_eff (op_build rfl Try.underlying33 ti33 rfl (by kernel_rfl) (by kernel_rfl) (pl := #[(0, 1), (1, 1), (2, 1)]) (by kernel_rfl) .nil rfl) rfl)) ?_
      refine rg_sto (nw := [(101, .bx 33 ([.fl (.string (⟨#[]⟩)), .fl (.slice none 0 0), .fl (.slice none 0 0)]))]) rfl (og rfl (of_eff (s_store rfl rfl ti33 rfl rfl rfl rfl rfl rfl) rfl)) ?_
      refine rg_put (d := 5) (v := .d (.fl (.int .i64 3))) rfl (og rfl (op_assign rfl rfl rfl)) ?_
      refine rg_done rfl ?_
      refine a_ret ?_
      show ∃ ds, ResL _ _ _ ds ∧ RV.of ds = _
      refine ⟨[.ag [.fl (.string (⟨#[]⟩)), .sl 5 (List.map eIm []), .sl 1 (List.map (rI .u64) [])], .fl (.int .i64 3)], (.cons (.cellT rfl rfl Try.underlying33 rfl ti33 rfl (Cv.ag (xs := [.fl (.string (⟨#[]⟩)), .fl (.slice none 0 0), .fl (.slice none 0 0)]) (ys := [.fl (.string (⟨#[]⟩)), .sl 5 (List.map eIm []), .sl 1 (List.map (rI .u64) [])]) ⟨Cv.refl _, Cv.nil _, Cv.nil _, trivial⟩)) (.cons (.tmp rfl (.d _)) .nil)), ?_⟩
      rw [bld_lim h3 h4]; rfl
    · skip
      have h6 := f_dec h4
      refine a_skip ?_
      show A _ _ _ _ _ _ _
      refine a_seq ?_
      refine a_rseq ?_
      refine rg_put (d := 6) (v := .d (.fl (.int .i64 0))) rfl (og rfl (op_assign rfl rfl rfl)) ?_
      refine rg_done rfl ?_
      refine a_block ?_
      refine a_loop (ι := Nat) (fun k => SS [(0, .d (.fl (.string id))), (1, .d (.sl 5 (List.map eIm l))), (4, .pt 101 0), (10, .d (.fl (.bool ((!(isF id)))))), (14, .d (.fl (.bool ((decide (1024 < (l.length : Int))))))), (6, .d (.fl (.int .i64 (k : Int))))] [(101, .bx 33 ([.fl (.string (⟨#[]⟩)), .fl (.slice none 0 0), .fl (.slice none 0 0)]))]) (fun k => k ≤ l.length ∧ bE l = fe (bk l) k (l.length - k)) (fun k => l.length - k) 0 (⟨by omega, bE_go l⟩) (imp_forget rfl ⟨rfl, rfl, rfl, rfl, rfl, (by first | rfl | exact ci (by omega) | exact ci (by simp) | exact cd (by simp) | simp), trivial⟩ ⟨rfl, trivial⟩) (fun k hok => ?_)
      obtain ⟨hk, hc⟩ := hok
      refine a_seq ?_
      refine a_rseq ?_
      refine rg_put (d := 16) (v := .d (.fl (.int .i64 (k : Int)))) rfl (og rfl (op_move rfl rfl rfl)) ?_
      refine rg_put (d := 17) (v := .d (.sl 5 (List.map eIm l))) rfl (og rfl (op_move rfl rfl rfl)) ?_
      refine rg_put (d := 18) (v := .d (.fl (.int .i64 (l.length : Int)))) rfl (og rfl (s_len rfl Try.underlying29 rfl rfl)) ?_
      refine rg_put (d := 19) (v := .d (.fl (.bool ((decide ((k : Int) < (l.length : Int))))))) rfl (og rfl (op_bin rfl rfl rfl (b_lss _ _ _ _) rfl)) ?_
      refine rg_done rfl ?_
      refine a_cond rfl (fun h7 => ?_) (fun h7 => ?_)
      · skip
        have h8 := t_dec h7
        refine a_skip ?_
        show A _ _ _ _ _ _ _
        refine a_seq ?_
        refine a_block ?_
        refine a_dseq (by kernel_rfl) ?_
        refine dr_put (d := 22) (v := .d (.sl 5 (List.map eIm l))) rfl (og rfl (op_move rfl rfl rfl)) ?_
        refine dr_put (d := 23) (v := .d (.fl (.int .i64 (k : Int)))) rfl (og rfl (op_move rfl rfl rfl)) ?_
        refine dr_put (d := 24) (v := .d (.sl 5 (List.map eIm (((l.drop 0).take (k - 0)))))) rfl (og rfl (s_slice rfl Try.underlying29 ti25 rfl (.no _) (.so (n := k) _ rfl (by omega)) (by omega) (by omega) rfl)) ?_
        refine dr_put (d := 25) (v := .d (.sl 5 (List.map eIm l))) rfl (og rfl (op_move rfl rfl rfl)) ?_
        refine dr_put (d := 26) (v := .d (.fl (.int .i64 (k : Int)))) rfl (og rfl (op_move rfl rfl rfl)) ?_
        refine dr_put (d := 27) (v := .el ((eIm (ix l k)))) rfl (og rfl (s_index rfl Try.underlying29 ti25 rfl rfl (by omega) (row_at (by omega)) rfl)) ?_
        refine dr_put (d := 28) (v := .d (.ag (eIm (ix l k)))) rfl (og rfl (of_eff (s_load_els rfl Try.underlying25 rfl ti25 rfl rfl rfl) rfl)) ?_
        refine dr_put (d := 29) (v := .d (.fl (.int .i64 ((chB (((l.drop 0).take (k - 0))) (ix l k)))))) rfl (og rfl (op_call rfl Try.func37 nm37 rfl (.cons rfl (.d _) (.cons rfl (.d _) .nil)) (check37 (((l.drop 0).take (k - 0))) (ix l k) (by first | omega | (simp only [List.length_take, List.length_drop]; omega))) rfl)) ?_
        refine dr_put (d := 7) (v := .d (.fl (.int .i64 ((chB (((l.drop 0).take (k - 0))) (ix l k)))))) rfl (og rfl (op_assign rfl rfl rfl)) ?_
        refine dr_done rfl (by kernel_rfl) (by kernel_rfl) ?_
        refine a_rseq ?_
        refine rg_put (d := 30) (v := .d (.fl (.int .i64 ((chB (((l.drop 0).take (k - 0))) (ix l k)))))) rfl (og rfl (op_move rfl rfl rfl)) ?_
        refine rg_put (d := 31) (v := .d (.fl (.bool (((chB (((l.drop 0).take (k - 0))) (ix l k)) != 0))))) rfl (og rfl (op_bin rfl rfl rfl (b_neq _ _ _ _) rfl)) ?_
        refine rg_done rfl ?_
        refine a_cond rfl (fun h9 => ?_) (fun h9 => ?_)
        · skip
          have h10 := t_bne h9
          refine a_rseq ?_
          refine rg_put (d := 32) (v := .d (.ag [.fl (.string (⟨#[]⟩)), .fl (.slice none 0 0), .fl (.slice none 0 0)])) rfl (og rfl (of_eff (op_build rfl Try.underlying33 ti33 rfl (by kernel_rfl) (by kernel_rfl) (pl := #[(0, 1), (1, 1), (2, 1)]) (by kernel_rfl) .nil rfl) rfl)) ?_
          refine rg_put (d := 33) (v := .d (.fl (.int .i64 ((chB (((l.drop 0).take (k - 0))) (ix l k)))))) rfl (og rfl (op_move rfl rfl rfl)) ?_
          refine rg_sto (nw := [(101, .bx 33 ([.fl (.string (⟨#[]⟩)), .fl (.slice none 0 0), .fl (.slice none 0 0)]))]) rfl (og rfl (of_eff (s_store rfl rfl ti33 rfl rfl rfl rfl rfl rfl) rfl)) ?_
          refine rg_put (d := 5) (v := .d (.fl (.int .i64 ((chB (((l.drop 0).take (k - 0))) (ix l k)))))) rfl (og rfl (op_assign rfl rfl rfl)) ?_
          refine rg_done rfl ?_
          refine a_ret ?_
          show ∃ ds, ResL _ _ _ ds ∧ RV.of ds = _
          refine ⟨[.ag [.fl (.string (⟨#[]⟩)), .sl 5 (List.map eIm []), .sl 1 (List.map (rI .u64) [])], .fl (.int .i64 ((chB (((l.drop 0).take (k - 0))) (ix l k))))], (.cons (.cellT rfl rfl Try.underlying33 rfl ti33 rfl (Cv.ag (xs := [.fl (.string (⟨#[]⟩)), .fl (.slice none 0 0), .fl (.slice none 0 0)]) (ys := [.fl (.string (⟨#[]⟩)), .sl 5 (List.map eIm []), .sl 1 (List.map (rI .u64) [])]) ⟨Cv.refl _, Cv.nil _, Cv.nil _, trivial⟩)) (.cons (.tmp rfl (.d _)) .nil)), ?_⟩
          have hb : bk l k = (chB (((l.drop 0).take (k - 0))) (ix l k)) := rfl
          rw [bld_err h3 h4 (fe_yes (by omega) hc hb (t_bne h9)) (t_bne h9)]; rfl
        · skip
          have h11 := f_bne h9
          refine a_skip ?_
          show A _ _ _ _ _ _ _
          refine a_region ?_
          refine rg_put (d := 20) (v := .d (.fl (.int .i64 (k : Int)))) rfl (og rfl (op_move rfl rfl rfl)) ?_
          refine rg_put (d := 21) (v := .d (.fl (.int .i64 (((k : Int) + 1))))) rfl (og rfl (op_bin rfl rfl rfl (fun x y w => b_add64 _ _ _ x y w (by omega)) rfl)) ?_
          refine rg_put (d := 6) (v := .d (.fl (.int .i64 (((k : Int) + 1))))) rfl (og rfl (op_assign rfl rfl rfl)) ?_
          refine rg_done rfl ?_
          have hb : bk l k = 0 := f_bne h9
          show ∃ i, _ ∧ _ ∧ Imp _ _ _ _ _
          refine ⟨k + 1, ⟨by omega, fe_no (by omega) hc hb⟩, by omega, imp_forget rfl ⟨rfl, rfl, rfl, rfl, rfl, (by first | rfl | exact ci (by omega) | exact ci (by simp) | exact cd (by simp) | simp), trivial⟩ ⟨rfl, trivial⟩⟩
      · skip
        have h12 := f_dec h7
        refine a_exit ?_
        show A _ _ _ _ _ _ _
        refine a_rseq ?_
        refine rg_put (d := 34) (v := .d (.fl (.string id))) rfl (og rfl (op_move rfl rfl rfl)) ?_
        refine rg_put (d := 35) (v := .d (.sl 5 (List.map eIm l))) rfl (og rfl (op_move rfl rfl rfl)) ?_
        refine rg_put (d := 36) (v := .d (.fl (.string id))) rfl (og rfl (op_move rfl rfl rfl)) ?_
        refine rg_put (d := 37) (v := .d (.sl 5 (List.map eIm l))) rfl (og rfl (op_move rfl rfl rfl)) ?_
        refine rg_put (d := 38) (v := .d (.sl 1 (List.map (rI .u64) (fits id l)))) rfl (og rfl (op_call rfl Try.func38 nm38 rfl (.cons rfl (.d _) (.cons rfl (.d _) .nil)) (fits38 id l (by omega) (by first | omega | (simp only [List.length_append, List.length_cons, List.length_nil]; omega)) hO) rfl)) ?_
        refine rg_put (d := 39) (v := .d (.ag (ePk ((Pk.mk id l (fits id l)))))) rfl (og rfl (of_eff (op_build rfl Try.underlying33 ti33 rfl (by kernel_rfl) (by kernel_rfl) (pl := #[(0, 1), (1, 1), (2, 1)]) (by kernel_rfl) (.cons rfl rfl (.d _) rfl rfl rfl (.cons rfl rfl (.d _) rfl rfl rfl (.cons rfl rfl (.d _) rfl rfl rfl .nil))) rfl) rfl)) ?_
        refine rg_sto (nw := [(101, .bx 33 ((ePk ((Pk.mk id l (fits id l))))))]) rfl (og rfl (of_eff (s_store rfl rfl ti33 rfl rfl rfl rfl rfl rfl) rfl)) ?_
        refine rg_put (d := 5) (v := .d (.fl (.int .i64 0))) rfl (og rfl (op_assign rfl rfl rfl)) ?_
        refine rg_done rfl ?_
        refine a_ret ?_
        show ∃ ds, ResL _ _ _ ds ∧ RV.of ds = _
        refine ⟨[.ag [.fl (.string (((Pk.mk id l (fits id l))).case)), .sl 5 (List.map eIm (((Pk.mk id l (fits id l))).images)), .sl 1 (List.map (rI .u64) (((Pk.mk id l (fits id l))).chain))], .fl (.int .i64 0)], (.cons (.cellT rfl rfl Try.underlying33 rfl ti33 rfl (Cv.ag (xs := [.fl (.string (((Pk.mk id l (fits id l))).case)), .sl 5 (List.map eIm (((Pk.mk id l (fits id l))).images)), .sl 1 (List.map (rI .u64) (((Pk.mk id l (fits id l))).chain))]) (ys := [.fl (.string (((Pk.mk id l (fits id l))).case)), .sl 5 (List.map eIm (((Pk.mk id l (fits id l))).images)), .sl 1 (List.map (rI .u64) (((Pk.mk id l (fits id l))).chain))]) ⟨Cv.refl _, Cv.refl _, Cv.refl _, trivial⟩)) (.cons (.tmp rfl (.d _)) .nil)), ?_⟩
        rw [fe_end (by omega)] at hc
        rw [bld_ok h3 h4 hc]; rfl
set_option maxHeartbeats 4000000 in
set_option maxRecDepth 100000 in
theorem add19 (p : Pk) (im : Im) (hP : Okp p) (hI : Okd im) : Ctr Try.prog 19 [.ag (ePk p), .ag (eIm im)] (.tu [.ag (ePk (add p im).1), .fl (.int .i64 (add p im).2)]) := by
  have hc := hP.c
  have hl := hP.l
  have hn := hP.n
  have hO := hP.o
  have hOa : ∀ x ∈ p.images ++ [im], Okd x := fun x hx => (List.mem_append.1 hx).elim (hO x) (fun h => by rw [List.mem_singleton.1 h]; exact hI)
  have hi5 := hI.l
  refine ctr (n := 41) (rs := #[.cell 4 33, .tmp 5]) (L := [(0, .d (.ag (ePk p))), (1, .d (.ag (eIm im)))]) Try.func19 rfl rfl rfl rfl rfl (fun w0 U0 => ?_)
  refine a_rseq ?_
  refine rg_nam (d := 2) (v := .pt 101 0) (m := 101) (nw := [(101, .bx 33 (ePk p))]) rfl (og rfl (of_eff (op_box 101 rfl rfl rfl rfl) rfl)) rfl ?_
  refine rg_nam (d := 3) (v := .pt 102 0) (m := 102) (nw := [(102, .bx 25 (eIm im))]) rfl (og rfl (of_eff (op_box 102 rfl rfl rfl rfl) rfl)) rfl ?_
  refine rg_nam (d := 4) (v := .pt 103 0) (m := 103) (nw := [(103, .bx 33 ([.fl (.string (⟨#[]⟩)), .fl (.slice none 0 0), .fl (.slice none 0 0)]))]) rfl (og rfl (of_eff (s_alloc 103 rfl ti33 (by kernel_rfl) rfl) rfl)) rfl ?_
  refine rg_put (d := 5) (v := .d (.fl (.int .i64 0))) rfl (og rfl (op_assign rfl rfl rfl)) ?_
  refine rg_done rfl ?_
  refine a_seq ?_
  refine a_rseq ?_
  refine rg_put (d := 8) (v := .d (.ag (ePk p))) rfl (og rfl (of_eff (s_load_pts rfl Try.underlying33 rfl ti33 rfl rfl rfl rfl) rfl)) ?_
  refine rg_put (d := 9) (v := .d (.fl (.bool ((lEq p.chain (fits p.case p.images)))))) rfl (og rfl (op_call rfl Try.func21 nm21 rfl (.cons rfl (.d _) .nil) (verify21 p hP) rfl)) ?_
  refine rg_put (d := 10) (v := .d (.fl (.bool ((!((lEq p.chain (fits p.case p.images)))))))) rfl (og rfl (op_un rfl rfl (u_not _) rfl)) ?_
  refine rg_done rfl ?_
  refine a_cond rfl (fun h1 => ?_) (fun h1 => ?_)
  · skip
    have h2 := t_not h1
    refine a_rseq ?_
    refine rg_put (d := 11) (v := .d (.ag (ePk p))) rfl (og rfl (of_eff (s_load_pts rfl Try.underlying33 rfl ti33 rfl rfl rfl rfl) rfl)) ?_
    refine rg_sto (nw := [(103, .bx 33 (ePk p))]) rfl (og rfl (of_eff (s_store rfl rfl ti33 rfl rfl rfl rfl rfl rfl) rfl)) ?_
    refine rg_put (d := 5) (v := .d (.fl (.int .i64 8))) rfl (og rfl (op_assign rfl rfl rfl)) ?_
    refine rg_done rfl ?_
    refine a_ret ?_
    show ∃ ds, ResL _ _ _ ds ∧ RV.of ds = _
    refine ⟨[.ag [.fl (.string p.case), .sl 5 (List.map eIm p.images), .sl 1 (List.map (rI .u64) p.chain)], .fl (.int .i64 8)], (.cons (.cellT rfl rfl Try.underlying33 rfl ti33 rfl (Cv.ag (xs := [.fl (.string p.case), .sl 5 (List.map eIm p.images), .sl 1 (List.map (rI .u64) p.chain)]) (ys := [.fl (.string p.case), .sl 5 (List.map eIm p.images), .sl 1 (List.map (rI .u64) p.chain)]) ⟨Cv.refl _, Cv.refl _, Cv.refl _, trivial⟩)) (.cons (.tmp rfl (.d _)) .nil)), ?_⟩
    rw [add_sum h2]; rfl
  · skip
    have h3 := f_not h1
    refine a_skip ?_
    show A _ _ _ _ _ _ _
    refine a_seq ?_
    refine a_rseq ?_
    refine rg_put (d := 12) (v := .pt 101 1) rfl (og rfl (of_eff (s_field_pt rfl Try.underlying33 rfl ti29 rfl rfl rfl) rfl)) ?_
    refine rg_put (d := 13) (v := .d (.sl 5 (List.map eIm p.images))) rfl (og rfl (op_load_pt rfl Try.underlying29 rfl rfl rfl rfl rfl)) ?_
    refine rg_put (d := 14) (v := .d (.fl (.int .i64 (p.images.length : Int)))) rfl (og rfl (s_len rfl Try.underlying29 rfl rfl)) ?_
    refine rg_put (d := 15) (v := .d (.fl (.bool ((decide (1024 ≤ (p.images.length : Int))))))) rfl (og rfl (op_bin rfl rfl rfl (b_geq _ _ _ _) rfl)) ?_
    refine rg_done rfl ?_
    refine a_cond rfl (fun h4 => ?_) (fun h4 => ?_)
    · skip
      have h5 := t_dec h4
      refine a_rseq ?_
      refine rg_put (d := 16) (v := .d (.ag (ePk p))) rfl (og rfl (of_eff (s_load_pts rfl Try.underlying33 rfl ti33 rfl rfl rfl rfl) rfl)) ?_
      refine rg_sto (nw := [(103, .bx 33 (ePk p))]) rfl (og rfl (of_eff (s_store rfl rfl ti33 rfl rfl rfl rfl rfl rfl) rfl)) ?_
      refine rg_put (d := 5) (v := .d (.fl (.int .i64 3))) rfl (og rfl (op_assign rfl rfl rfl)) ?_
      refine rg_done rfl ?_
      refine a_ret ?_
      show ∃ ds, ResL _ _ _ ds ∧ RV.of ds = _
      refine ⟨[.ag [.fl (.string p.case), .sl 5 (List.map eIm p.images), .sl 1 (List.map (rI .u64) p.chain)], .fl (.int .i64 3)], (.cons (.cellT rfl rfl Try.underlying33 rfl ti33 rfl (Cv.ag (xs := [.fl (.string p.case), .sl 5 (List.map eIm p.images), .sl 1 (List.map (rI .u64) p.chain)]) (ys := [.fl (.string p.case), .sl 5 (List.map eIm p.images), .sl 1 (List.map (rI .u64) p.chain)]) ⟨Cv.refl _, Cv.refl _, Cv.refl _, trivial⟩)) (.cons (.tmp rfl (.d _)) .nil)), ?_⟩
      rw [add_lim h3 h4]; rfl
    · skip
      have h6 := f_dec h4
      refine a_skip ?_
      show A _ _ _ _ _ _ _
      refine a_rseq ?_
      refine rg_put (d := 17) (v := .pt 101 1) rfl (og rfl (of_eff (s_field_pt rfl Try.underlying33 rfl ti29 rfl rfl rfl) rfl)) ?_
      refine rg_put (d := 18) (v := .d (.sl 5 (List.map eIm p.images))) rfl (og rfl (op_load_pt rfl Try.underlying29 rfl rfl rfl rfl rfl)) ?_
      refine rg_put (d := 19) (v := .d (.ag (eIm im))) rfl (og rfl (of_eff (s_load_pts rfl Try.underlying25 rfl ti25 rfl rfl rfl rfl) rfl)) ?_
      refine rg_put (d := 20) (v := .d (.fl (.int .i64 (chB p.images im)))) rfl (og rfl (op_call rfl Try.func37 nm37 rfl (.cons rfl (.d _) (.cons rfl (.d _) .nil)) (check37 p.images im (by first | omega | (simp only [List.length_take, List.length_drop]; omega))) rfl)) ?_
      refine rg_put (d := 6) (v := .d (.fl (.int .i64 (chB p.images im)))) rfl (og rfl (op_assign rfl rfl rfl)) ?_
      refine rg_done rfl ?_
      refine a_seq ?_
      refine a_rseq ?_
      refine rg_put (d := 21) (v := .d (.fl (.int .i64 (chB p.images im)))) rfl (og rfl (op_move rfl rfl rfl)) ?_
      refine rg_put (d := 22) (v := .d (.fl (.bool (((chB p.images im) != 0))))) rfl (og rfl (op_bin rfl rfl rfl (b_neq _ _ _ _) rfl)) ?_
      refine rg_done rfl ?_
      refine a_cond rfl (fun h7 => ?_) (fun h7 => ?_)
      · skip
        have h8 := t_bne h7
        refine a_rseq ?_
        refine rg_put (d := 23) (v := .d (.ag (ePk p))) rfl (og rfl (of_eff (s_load_pts rfl Try.underlying33 rfl ti33 rfl rfl rfl rfl) rfl)) ?_
        refine rg_put (d := 24) (v := .d (.fl (.int .i64 (chB p.images im)))) rfl (og rfl (op_move rfl rfl rfl)) ?_
        refine rg_sto (nw := [(103, .bx 33 (ePk p))]) rfl (og rfl (of_eff (s_store rfl rfl ti33 rfl rfl rfl rfl rfl rfl) rfl)) ?_
        refine rg_put (d := 5) (v := .d (.fl (.int .i64 (chB p.images im)))) rfl (og rfl (op_assign rfl rfl rfl)) ?_
        refine rg_done rfl ?_
        refine a_ret ?_
        show ∃ ds, ResL _ _ _ ds ∧ RV.of ds = _
        refine ⟨[.ag [.fl (.string p.case), .sl 5 (List.map eIm p.images), .sl 1 (List.map (rI .u64) p.chain)], .fl (.int .i64 (chB p.images im))], (.cons (.cellT rfl rfl Try.underlying33 rfl ti33 rfl (Cv.ag (xs := [.fl (.string p.case), .sl 5 (List.map eIm p.images), .sl 1 (List.map (rI .u64) p.chain)]) (ys := [.fl (.string p.case), .sl 5 (List.map eIm p.images), .sl 1 (List.map (rI .u64) p.chain)]) ⟨Cv.refl _, Cv.refl _, Cv.refl _, trivial⟩)) (.cons (.tmp rfl (.d _)) .nil)), ?_⟩
        rw [add_err h3 h4 rfl (t_bne h7)]; rfl
      · skip
        have h9 := f_bne h7
        refine a_skip ?_
        show A _ _ _ _ _ _ _
        refine a_rseq ?_
        refine rg_put (d := 7) (v := .d (.fl (.slice none 0 0))) rfl (og rfl (op_assign rfl rfl rfl)) ?_
        refine rg_done rfl ?_
        refine a_rseq ?_
        refine rg_put (d := 25) (v := .d (.fl (.slice none 0 0))) rfl (og rfl (op_move rfl rfl rfl)) ?_
        refine rg_put (d := 26) (v := .pt 101 1) rfl (og rfl (of_eff (s_field_pt rfl Try.underlying33 rfl ti29 rfl rfl rfl) rfl)) ?_
        refine rg_put (d := 27) (v := .d (.sl 5 (List.map eIm p.images))) rfl (og rfl (op_load_pt rfl Try.underlying29 rfl rfl rfl rfl rfl)) ?_
        refine rg_nam (d := 28) (v := .ow 104) (m := 104) (nw := [(104, .tr 25 5 (tD eIm p.images))]) rfl (og rfl (of_eff (s_append_nilT 104 rfl Try.underlying29 ti25 rfl rfl rfl rfl (.d _) (by first | omega | (simp only [List.length_append, List.length_cons, List.length_nil]; omega)) rfl) rfl)) rfl ?_
        refine rg_put (d := 7) (v := .ow 104) rfl (og rfl (op_assign rfl rfl rfl)) ?_
        refine rg_done rfl ?_
        refine a_rseq ?_
        refine rg_put (d := 29) (v := .ow 104) rfl (og rfl (op_move rfl rfl rfl)) ?_
        refine rg_put (d := 30) (v := .d (.ag (eIm im))) rfl (og rfl (of_eff (s_load_pts rfl Try.underlying25 rfl ti25 rfl rfl rfl rfl) rfl)) ?_
        refine rg_put (d := 31) (v := .d (.sl 5 (List.map eIm [im]))) rfl (og rfl (of_eff (op_slices rfl Try.underlying29 ti25 rfl rfl rfl (by kernel_rfl) (xs := [.ag (eIm im)]) rfl rfl (.cons rfl rfl (.d _) rfl rfl rfl .nil) rfl) rfl)) ?_
        refine rg_nam (d := 32) (v := .ow 105) (m := 105) (nw := [(105, .tr 25 5 (tD eIm (p.images ++ [im]))), (104, .no)]) rfl (og rfl (of_eff (s_append_td 105 rfl Try.underlying29 ti25 rfl rfl rfl rfl rfl (.d _) (by first | omega | (simp only [List.length_append, List.length_cons, List.length_nil]; omega)) rfl) rfl)) rfl ?_
        refine rg_put (d := 7) (v := .ow 105) rfl (og rfl (op_assign rfl rfl rfl)) ?_
        refine rg_done rfl ?_
        refine a_imp (imp_leakT 7 105 rfl rfl) ?_
        refine a_dseq (by kernel_rfl) ?_
        refine dr_put (d := 33) (v := .pt 101 0) rfl (og rfl (of_eff (s_field_pt rfl Try.underlying33 rfl ti9 rfl rfl rfl) rfl)) ?_
        refine dr_put (d := 34) (v := .d (.fl (.string p.case))) rfl (og rfl (op_load_pt rfl Try.underlying9 rfl rfl rfl rfl rfl)) ?_
        refine dr_put (d := 35) (v := .d (.sl 5 (List.map eIm (p.images ++ [im])))) rfl (og rfl (op_move rfl rfl rfl)) ?_
        refine dr_put (d := 36) (v := .pt 101 0) rfl (og rfl (of_eff (s_field_pt rfl Try.underlying33 rfl ti9 rfl rfl rfl) rfl)) ?_
        refine dr_put (d := 37) (v := .d (.fl (.string p.case))) rfl (og rfl (op_load_pt rfl Try.underlying9 rfl rfl rfl rfl rfl)) ?_
        refine dr_put (d := 38) (v := .d (.sl 5 (List.map eIm (p.images ++ [im])))) rfl (og rfl (op_move rfl rfl rfl)) ?_
        refine dr_put (d := 39) (v := .d (.sl 1 (List.map (rI .u64) ((fits p.case (p.images ++ [im])))))) rfl (og rfl (op_call rfl Try.func38 nm38 rfl (.cons rfl (.d _) (.cons rfl (.d _) .nil)) (fits38 p.case (p.images ++ [im]) (by omega) (by first | omega | (simp only [List.length_append, List.length_cons, List.length_nil]; omega)) hOa) rfl)) ?_
        refine dr_put (d := 40) (v := .d (.ag (ePk ((Pk.mk p.case (p.images ++ [im]) ((fits p.case (p.images ++ [im])))))))) rfl (og rfl (of_eff (op_build rfl Try.underlying33 ti33 rfl (by kernel_rfl) (by kernel_rfl) (pl := #[(0, 1), (1, 1), (2, 1)]) (by kernel_rfl) (.cons rfl rfl (.d _) rfl rfl rfl (.cons rfl rfl (.d _) rfl rfl rfl (.cons rfl rfl (.d _) rfl rfl rfl .nil))) rfl) rfl)) ?_
        refine dr_sto (nw := [(103, .bx 33 ((ePk ((Pk.mk p.case (p.images ++ [im]) ((fits p.case (p.images ++ [im]))))))))]) rfl (og rfl (of_eff (s_store rfl rfl ti33 rfl rfl rfl rfl rfl rfl) rfl)) ?_
        refine dr_put (d := 5) (v := .d (.fl (.int .i64 0))) rfl (og rfl (op_assign rfl rfl rfl)) ?_
        refine dr_done rfl (by kernel_rfl) (by kernel_rfl) ?_
        refine a_ret ?_
        show ∃ ds, ResL _ _ _ ds ∧ RV.of ds = _
        refine ⟨[.ag [.fl (.string (((Pk.mk p.case (p.images ++ [im]) ((fits p.case (p.images ++ [im]))))).case)), .sl 5 (List.map eIm (((Pk.mk p.case (p.images ++ [im]) ((fits p.case (p.images ++ [im]))))).images)), .sl 1 (List.map (rI .u64) (((Pk.mk p.case (p.images ++ [im]) ((fits p.case (p.images ++ [im]))))).chain))], .fl (.int .i64 0)], (.cons (.cellT rfl rfl Try.underlying33 rfl ti33 rfl (Cv.ag (xs := [.fl (.string (((Pk.mk p.case (p.images ++ [im]) ((fits p.case (p.images ++ [im]))))).case)), .sl 5 (List.map eIm (((Pk.mk p.case (p.images ++ [im]) ((fits p.case (p.images ++ [im]))))).images)), .sl 1 (List.map (rI .u64) (((Pk.mk p.case (p.images ++ [im]) ((fits p.case (p.images ++ [im]))))).chain))]) (ys := [.fl (.string (((Pk.mk p.case (p.images ++ [im]) ((fits p.case (p.images ++ [im]))))).case)), .sl 5 (List.map eIm (((Pk.mk p.case (p.images ++ [im]) ((fits p.case (p.images ++ [im]))))).images)), .sl 1 (List.map (rI .u64) (((Pk.mk p.case (p.images ++ [im]) ((fits p.case (p.images ++ [im]))))).chain))]) ⟨Cv.refl _, Cv.refl _, Cv.refl _, trivial⟩)) (.cons (.tmp rfl (.d _)) .nil)), ?_⟩
        rw [add_ok h3 h4 (f_bne h7)]; rfl
set_option maxHeartbeats 4000000 in
set_option maxRecDepth 100000 in
theorem add18 (p : Pk) (im : Im) (hP : Okp p) (hI : Okd im) : Ctr Try.prog 18 [.ag (ePk p), .ag (eIm im)] (.tu [.ag (ePk (add p im).1), .fl (.int .i64 (add p im).2)]) := by
  have hc := hP.c
  have hl := hP.l
  have hn := hP.n
  have hO := hP.o
  have hOa : ∀ x ∈ p.images ++ [im], Okd x := fun x hx => (List.mem_append.1 hx).elim (hO x) (fun h => by rw [List.mem_singleton.1 h]; exact hI)
  have hi5 := hI.l
  refine ctr (n := 68) (rs := #[.cell 4 33, .tmp 5]) (L := [(0, .d (.ag (ePk p))), (1, .d (.ag (eIm im)))]) Try.func18 rfl rfl rfl rfl rfl (fun w0 U0 => ?_)
  refine a_rseq ?_
  refine rg_nam (d := 2) (v := .pt 101 0) (m := 101) (nw := [(101, .bx 33 (ePk p))]) rfl (og rfl (of_eff (op_box 101 rfl rfl rfl rfl) rfl)) rfl ?_
  refine rg_nam (d := 3) (v := .pt 102 0) (m := 102) (nw := [(102, .bx 25 (eIm im))]) rfl (og rfl (of_eff (op_box 102 rfl rfl rfl rfl) rfl)) rfl ?_
  refine rg_nam (d := 4) (v := .pt 103 0) (m := 103) (nw := [(103, .bx 33 ([.fl (.string (⟨#[]⟩)), .fl (.slice none 0 0), .fl (.slice none 0 0)]))]) rfl (og rfl (of_eff (s_alloc 103 rfl ti33 (by kernel_rfl) rfl) rfl)) rfl ?_
  refine rg_put (d := 5) (v := .d (.fl (.int .i64 0))) rfl (og rfl (op_assign rfl rfl rfl)) ?_
  refine rg_done rfl ?_
  refine a_seq ?_
  refine a_rseq ?_
  refine rg_put (d := 10) (v := .d (.ag (ePk p))) rfl (og rfl (of_eff (s_load_pts rfl Try.underlying33 rfl ti33 rfl rfl rfl rfl) rfl)) ?_
  refine rg_put (d := 11) (v := .d (.fl (.bool ((lEq p.chain (fits p.case p.images)))))) rfl (og rfl (op_call rfl Try.func20 nm20 rfl (.cons rfl (.d _) .nil) (verify20 p hP) rfl)) ?_
  refine rg_put (d := 12) (v := .d (.fl (.bool ((!((lEq p.chain (fits p.case p.images)))))))) rfl (og rfl (op_un rfl rfl (u_not _) rfl)) ?_
  refine rg_done rfl ?_
  refine a_cond rfl (fun h1 => ?_) (fun h1 => ?_)
  · skip
    have h2 := t_not h1
    refine a_rseq ?_
    refine rg_put (d := 13) (v := .d (.ag (ePk p))) rfl (og rfl (of_eff (s_load_pts rfl Try.underlying33 rfl ti33 rfl rfl rfl rfl) rfl)) ?_
    refine rg_sto (nw := [(103, .bx 33 (ePk p))]) rfl (og rfl (of_eff (s_store rfl rfl ti33 rfl rfl rfl rfl rfl rfl) rfl)) ?_
    refine rg_put (d := 5) (v := .d (.fl (.int .i64 8))) rfl (og rfl (op_assign rfl rfl rfl)) ?_
    refine rg_done rfl ?_
    refine a_ret ?_
    show ∃ ds, ResL _ _ _ ds ∧ RV.of ds = _
    refine ⟨[.ag [.fl (.string p.case), .sl 5 (List.map eIm p.images), .sl 1 (List.map (rI .u64) p.chain)], .fl (.int .i64 8)], (.cons (.cellT rfl rfl Try.underlying33 rfl ti33 rfl (Cv.ag (xs := [.fl (.string p.case), .sl 5 (List.map eIm p.images), .sl 1 (List.map (rI .u64) p.chain)]) (ys := [.fl (.string p.case), .sl 5 (List.map eIm p.images), .sl 1 (List.map (rI .u64) p.chain)]) ⟨Cv.refl _, Cv.refl _, Cv.refl _, trivial⟩)) (.cons (.tmp rfl (.d _)) .nil)), ?_⟩
    rw [add_sum h2]; rfl
  · skip
    have h3 := f_not h1
    refine a_skip ?_
    show A _ _ _ _ _ _ _
    refine a_rseq ?_
    have hch : p.chain = fits p.case p.images := lEq_eq h3
    have hcl : p.chain.length = p.images.length := by rw [hch, fits_len]
    refine rg_put (d := 14) (v := .pt 101 1) rfl (og rfl (of_eff (s_field_pt rfl Try.underlying33 rfl ti29 rfl rfl rfl) rfl)) ?_
    refine rg_put (d := 15) (v := .d (.sl 5 (List.map eIm p.images))) rfl (og rfl (op_load_pt rfl Try.underlying29 rfl rfl rfl rfl rfl)) ?_
    refine rg_put (d := 16) (v := .d (.fl (.int .i64 (p.images.length : Int)))) rfl (og rfl (s_len rfl Try.underlying29 rfl rfl)) ?_
    refine rg_put (d := 6) (v := .d (.fl (.int .i64 (p.images.length : Int)))) rfl (og rfl (op_assign rfl rfl rfl)) ?_
    refine rg_done rfl ?_
    refine a_seq ?_
    refine a_rseq ?_
    refine rg_put (d := 17) (v := .d (.fl (.int .i64 (p.images.length : Int)))) rfl (og rfl (op_move rfl rfl rfl)) ?_
    refine rg_put (d := 18) (v := .d (.fl (.bool ((decide (1024 ≤ (p.images.length : Int))))))) rfl (og rfl (op_bin rfl rfl rfl (b_geq _ _ _ _) rfl)) ?_
    refine rg_done rfl ?_
    refine a_cond rfl (fun h4 => ?_) (fun h4 => ?_)
    · skip
      have h5 := t_dec h4
      refine a_rseq ?_
      refine rg_put (d := 19) (v := .d (.ag (ePk p))) rfl (og rfl (of_eff (s_load_pts rfl Try.underlying33 rfl ti33 rfl rfl rfl rfl) rfl)) ?_
      refine rg_sto (nw := [(103, .bx 33 (ePk p))]) rfl (og rfl (of_eff (s_store rfl rfl ti33 rfl rfl rfl rfl rfl rfl) rfl)) ?_
      refine rg_put (d := 5) (v := .d (.fl (.int .i64 3))) rfl (og rfl (op_assign rfl rfl rfl)) ?_
      refine rg_done rfl ?_
      refine a_ret ?_
      show ∃ ds, ResL _ _ _ ds ∧ RV.of ds = _
      refine ⟨[.ag [.fl (.string p.case), .sl 5 (List.map eIm p.images), .sl 1 (List.map (rI .u64) p.chain)], .fl (.int .i64 3)], (.cons (.cellT rfl rfl Try.underlying33 rfl ti33 rfl (Cv.ag (xs := [.fl (.string p.case), .sl 5 (List.map eIm p.images), .sl 1 (List.map (rI .u64) p.chain)]) (ys := [.fl (.string p.case), .sl 5 (List.map eIm p.images), .sl 1 (List.map (rI .u64) p.chain)]) ⟨Cv.refl _, Cv.refl _, Cv.refl _, trivial⟩)) (.cons (.tmp rfl (.d _)) .nil)), ?_⟩
      rw [add_lim h3 h4]; rfl
    · skip
      have h6 := f_dec h4
      refine a_skip ?_
      show A _ _ _ _ _ _ _
      refine a_seq ?_
      refine a_rseq ?_
      refine rg_put (d := 20) (v := .d (.ag (eIm im))) rfl (og rfl (of_eff (s_load_pts rfl Try.underlying25 rfl ti25 rfl rfl rfl rfl) rfl)) ?_
      refine rg_put (d := 21) (v := .d (.fl (.int .i64 (chI im)))) rfl (og rfl (op_call rfl Try.func33 nm33 rfl (.cons rfl (.d _) .nil) (check33 im) rfl)) ?_
      refine rg_put (d := 7) (v := .d (.fl (.int .i64 (chI im)))) rfl (og rfl (op_assign rfl rfl rfl)) ?_
      refine rg_done rfl ?_
      refine a_rseq ?_
      refine rg_put (d := 22) (v := .d (.fl (.int .i64 (chI im)))) rfl (og rfl (op_move rfl rfl rfl)) ?_
      refine rg_put (d := 23) (v := .d (.fl (.bool (((chI im) != 0))))) rfl (og rfl (op_bin rfl rfl rfl (b_neq _ _ _ _) rfl)) ?_
      refine rg_done rfl ?_
      refine a_cond rfl (fun h7 => ?_) (fun h7 => ?_)
      · skip
        have h8 := t_bne h7
        refine a_rseq ?_
        refine rg_put (d := 24) (v := .d (.ag (ePk p))) rfl (og rfl (of_eff (s_load_pts rfl Try.underlying33 rfl ti33 rfl rfl rfl rfl) rfl)) ?_
        refine rg_put (d := 25) (v := .d (.fl (.int .i64 (chI im)))) rfl (og rfl (op_move rfl rfl rfl)) ?_
        refine rg_sto (nw := [(103, .bx 33 (ePk p))]) rfl (og rfl (of_eff (s_store rfl rfl ti33 rfl rfl rfl rfl rfl rfl) rfl)) ?_
        refine rg_put (d := 5) (v := .d (.fl (.int .i64 (chI im)))) rfl (og rfl (op_assign rfl rfl rfl)) ?_
        refine rg_done rfl ?_
        refine a_ret ?_
        show ∃ ds, ResL _ _ _ ds ∧ RV.of ds = _
        refine ⟨[.ag [.fl (.string p.case), .sl 5 (List.map eIm p.images), .sl 1 (List.map (rI .u64) p.chain)], .fl (.int .i64 (chI im))], (.cons (.cellT rfl rfl Try.underlying33 rfl ti33 rfl (Cv.ag (xs := [.fl (.string p.case), .sl 5 (List.map eIm p.images), .sl 1 (List.map (rI .u64) p.chain)]) (ys := [.fl (.string p.case), .sl 5 (List.map eIm p.images), .sl 1 (List.map (rI .u64) p.chain)]) ⟨Cv.refl _, Cv.refl _, Cv.refl _, trivial⟩)) (.cons (.tmp rfl (.d _)) .nil)), ?_⟩
        have hb : chB p.images im = chI im := by unfold chB; simp only [h7]; rfl
        rw [add_err h3 h4 hb (t_bne h7)]; rfl
      · skip
        have h9 := f_bne h7
        refine a_skip ?_
        show A _ _ _ _ _ _ _
        refine a_seq ?_
        refine a_rseq ?_
        refine rg_imp (imp_freeze 3 102 rfl rfl) ?_
        refine rg_put (d := 26) (v := .pt 101 1) rfl (og rfl (of_eff (s_field_pt rfl Try.underlying33 rfl ti29 rfl rfl rfl) rfl)) ?_
        refine rg_put (d := 27) (v := .d (.sl 5 (List.map eIm p.images))) rfl (og rfl (op_load_pt rfl Try.underlying29 rfl rfl rfl rfl rfl)) ?_
        refine rg_put (d := 28) (v := .d (.fn 40 [.el (eIm im)])) rfl (og rfl (op_mkfn rfl (.cons rfl .nil) rfl)) ?_
        refine rg_put (d := 29) (v := .d (.fl (.bool (dupI p.images im.id)))) rfl (og rfl (op_call rfl Try.func39 nm39 rfl (.cons rfl (.d _) (.cons rfl (.d _) .nil)) (has39 p.images im (by omega)) rfl)) ?_
        refine rg_done rfl ?_
        refine a_cond rfl (fun h10 => ?_) (fun h10 => ?_)
        · skip
          refine a_rseq ?_
          refine rg_put (d := 30) (v := .d (.ag (ePk p))) rfl (og rfl (of_eff (s_load_pts rfl Try.underlying33 rfl ti33 rfl rfl rfl rfl) rfl)) ?_
          refine rg_sto (nw := [(103, .bx 33 (ePk p))]) rfl (og rfl (of_eff (s_store rfl rfl ti33 rfl rfl rfl rfl rfl rfl) rfl)) ?_
          refine rg_put (d := 5) (v := .d (.fl (.int .i64 9))) rfl (og rfl (op_assign rfl rfl rfl)) ?_
          refine rg_done rfl ?_
          refine a_ret ?_
          show ∃ ds, ResL _ _ _ ds ∧ RV.of ds = _
          refine ⟨[.ag [.fl (.string p.case), .sl 5 (List.map eIm p.images), .sl 1 (List.map (rI .u64) p.chain)], .fl (.int .i64 9)], (.cons (.cellT rfl rfl Try.underlying33 rfl ti33 rfl (Cv.ag (xs := [.fl (.string p.case), .sl 5 (List.map eIm p.images), .sl 1 (List.map (rI .u64) p.chain)]) (ys := [.fl (.string p.case), .sl 5 (List.map eIm p.images), .sl 1 (List.map (rI .u64) p.chain)]) ⟨Cv.refl _, Cv.refl _, Cv.refl _, trivial⟩)) (.cons (.tmp rfl (.d _)) .nil)), ?_⟩
          have hb : chB p.images im = 9 := by unfold chB; simp only [h7, h10]; rfl
          rw [add_err h3 h4 hb (by decide)]; rfl
        · skip
          refine a_skip ?_
          show A _ _ _ _ _ _ _
          refine a_rseq ?_
          refine rg_put (d := 31) (v := .pt 101 0) rfl (og rfl (of_eff (s_field_pt rfl Try.underlying33 rfl ti9 rfl rfl rfl) rfl)) ?_
          refine rg_put (d := 32) (v := .d (.fl (.string p.case))) rfl (og rfl (op_load_pt rfl Try.underlying9 rfl rfl rfl rfl rfl)) ?_
          refine rg_put (d := 33) (v := .d (.sl 1 (List.map (rI .u8) (bys p.case)))) rfl (og rfl (op_bytesOf rfl Try.underlying9 Try.underlying48 Try.underlying5 rfl (by first | omega | (simp only [List.length_append, List.length_drop, List.length_replicate]; omega)) rfl)) ?_
          refine rg_put (d := 34) (v := .d (.fl (.int .u64 ((hsh (bys p.case)))))) rfl (og rfl (op_call rfl Try.func30 nm30 rfl (.cons rfl (.d _) .nil) (dig_hash (bys p.case) (by first | omega | (rw [bys_len]; omega))) rfl)) ?_
          refine rg_put (d := 8) (v := .d (.fl (.int .u64 ((hsh (bys p.case)))))) rfl (og rfl (op_assign rfl rfl rfl)) ?_
          refine rg_done rfl ?_
          refine a_seq ?_
          refine a_rseq ?_
          refine rg_put (d := 35) (v := .d (.fl (.int .i64 (p.images.length : Int)))) rfl (og rfl (op_move rfl rfl rfl)) ?_
          refine rg_put (d := 36) (v := .d (.fl (.bool ((decide (0 < (p.images.length : Int))))))) rfl (og rfl (op_bin rfl rfl rfl (b_gtr _ _ _ _) rfl)) ?_
          refine rg_done rfl ?_
          refine a_cond rfl (fun h11 => ?_) (fun h11 => ?_)
          · skip
            have h12 := t_dec h11
            refine a_region ?_
            refine rg_put (d := 37) (v := .pt 101 2) rfl (og rfl (of_eff (s_field_pt rfl Try.underlying33 rfl ti31 rfl rfl rfl) rfl)) ?_
            refine rg_put (d := 38) (v := .d (.sl 1 (List.map (rI .u64) p.chain))) rfl (og rfl (op_load_pt rfl Try.underlying31 rfl rfl rfl rfl rfl)) ?_
            refine rg_put (d := 39) (v := .d (.fl (.int .i64 (p.images.length : Int)))) rfl (og rfl (op_move rfl rfl rfl)) ?_
            refine rg_put (d := 40) (v := .d (.fl (.int .i64 (((p.images.length : Int) - 1))))) rfl (og rfl (op_bin rfl rfl rfl (fun x y w => b_sub64 _ _ _ x y w (by first | omega | (simp only [List.length_append, List.length_drop, List.length_replicate]; omega))) rfl)) ?_
            refine rg_put (d := 41) (v := .el ((rI .u64 ((ix p.chain (((p.images.length : Int) - 1)).toNat))))) rfl (og rfl (s_index rfl Try.underlying31 ti23 rfl rfl (by first | omega | (simp only [List.length_append, List.length_drop, List.length_replicate]; omega)) (row_atI (by first | omega | (simp only [List.length_append, List.length_drop, List.length_replicate]; omega)) (by first | omega | (simp only [List.length_append, List.length_drop, List.length_replicate]; omega))) rfl)) ?_
            refine rg_put (d := 42) (v := .d (.fl (.int .u64 ((ix p.chain (((p.images.length : Int) - 1)).toNat))))) rfl (og rfl (op_load_el rfl Try.underlying23 rfl rfl rfl rfl)) ?_
            refine rg_put (d := 8) (v := .d (.fl (.int .u64 ((ix p.chain (((p.images.length : Int) - 1)).toNat))))) rfl (og rfl (op_assign rfl rfl rfl)) ?_
            refine rg_done rfl ?_
            show A _ _ _ _ _ _ _
            refine a_rseq ?_
            refine rg_put (d := 43) (v := .d (.fl (.int .i64 (p.images.length : Int)))) rfl (og rfl (op_move rfl rfl rfl)) ?_
            refine rg_put (d := 44) (v := .d (.fl (.int .i64 (((p.images.length : Int) + 1))))) rfl (og rfl (op_bin rfl rfl rfl (fun x y w => b_add64 _ _ _ x y w (by first | omega | (simp only [List.length_append, List.length_drop, List.length_replicate]; omega))) rfl)) ?_
            rw [show ((p.images.length : Int) + 1) = ((p.images.length + 1 : Nat) : Int) from by omega]
            have hla : (ix p.chain (((p.images.length : Int) - 1)).toNat) = lastD p.case p.images := by rw [hch]; exact last_pos (by omega)
            refine rg_nam (d := 45) (v := .ow 104) (m := 104) (nw := [(104, .tr 23 1 (tD (rI .u64) ((List.replicate (p.images.length + 1) 0))))]) rfl (og rfl (of_eff (op_makeI 104 rfl Try.underlying31 ti23 (n := p.images.length + 1) rfl rfl (by first | omega | (simp only [List.length_append, List.length_drop, List.length_replicate]; omega)) (by first | omega | (simp only [List.length_append, List.length_drop, List.length_replicate]; omega)) (by first | omega | (simp only [List.length_append, List.length_drop, List.length_replicate]; omega)) (by first | omega | (simp only [List.length_append, List.length_drop, List.length_replicate]; omega)) rfl) rfl)) rfl ?_
            refine rg_put (d := 9) (v := .ow 104) rfl (og rfl (op_assign rfl rfl rfl)) ?_
            refine rg_done rfl ?_
            refine a_rseq ?_
            refine rg_put (d := 46) (v := .ow 104) rfl (og rfl (op_move rfl rfl rfl)) ?_
            refine rg_put (d := 47) (v := .pt 101 2) rfl (og rfl (of_eff (s_field_pt rfl Try.underlying33 rfl ti31 rfl rfl rfl) rfl)) ?_
            refine rg_put (d := 48) (v := .d (.sl 1 (List.map (rI .u64) p.chain))) rfl (og rfl (op_load_pt rfl Try.underlying31 rfl rfl rfl rfl rfl)) ?_
            refine rg_upd (d := 49) (v := .d (.fl (.int .i64 (p.chain.length : Int)))) (nw := [(104, .tr 23 1 (tD (rI .u64) ((p.chain ++ List.drop p.chain.length ((List.replicate (p.images.length + 1) 0))))))]) rfl (og rfl (of_eff (op_copyI rfl Try.underlying31 ti23 rfl rfl rfl (.d _) (by first | omega | (simp only [List.length_append, List.length_drop, List.length_replicate]; omega)) rfl) rfl)) ?_
            refine rg_done rfl ?_
            refine a_rseq ?_
            refine rg_put (d := 50) (v := .ow 104) rfl (og rfl (op_move rfl rfl rfl)) ?_
            refine rg_put (d := 51) (v := .d (.fl (.int .i64 (p.images.length : Int)))) rfl (og rfl (op_move rfl rfl rfl)) ?_
            refine rg_put (d := 52) (v := .d (.fl (.int .u64 ((ix p.chain (((p.images.length : Int) - 1)).toNat))))) rfl (og rfl (op_move rfl rfl rfl)) ?_
            refine rg_put (d := 53) (v := .d (.ag (eIm im))) rfl (og rfl (of_eff (s_load_els rfl Try.underlying25 rfl ti25 rfl rfl rfl) rfl)) ?_
            refine rg_put (d := 54) (v := .d (.fl (.int .u64 (dgI im)))) rfl (og rfl (op_call rfl Try.func12 nm12 rfl (.cons rfl (.d _) .nil) (digest12 im hI) rfl)) ?_
            refine rg_put (d := 55) (v := .d (.fl (.int .u64 ((jn ((ix p.chain (((p.images.length : Int) - 1)).toNat)) (dgI im)))))) rfl (og rfl (op_call rfl Try.func41 nm41 rfl (.cons rfl (.d _) (.cons rfl (.d _) .nil)) (join41 ((ix p.chain (((p.images.length : Int) - 1)).toNat)) (dgI im) (by first | exact hsh_in _ | exact dgI_in _ | exact hP.u _ (ix_mem (by omega))) (by first | exact hsh_in _ | exact dgI_in _ | exact hP.u _ (ix_mem (by omega)))) rfl)) ?_
            refine rg_put (d := 56) (v := .pe 104 1 p.images.length 0) rfl (og rfl (op_index_tr rfl Try.underlying31 ti23 rfl rfl rfl (get_lt (tD_at (by first | omega | (simp only [List.length_append, List.length_drop, List.length_replicate]; omega)))) rfl)) ?_
            refine rg_sto (nw := [(104, .tr 23 1 ((((tD (rI .u64) ((p.chain ++ List.drop p.chain.length ((List.replicate (p.images.length + 1) 0)))))).set p.images.length [.dv (.fl (.int .u64 ((jn ((ix p.chain (((p.images.length : Int) - 1)).toNat)) (dgI im)))))])))]) rfl (og rfl (of_eff (op_store_pe rfl rfl ti23 rfl rfl (tD_at (by first | omega | (simp only [List.length_append, List.length_drop, List.length_replicate]; omega))) rfl (.d rfl) rfl rfl rfl) rfl)) ?_
            refine rg_done rfl ?_
            rw [tD_setI]
            rw [show (List.set (p.chain ++ List.drop p.chain.length (List.replicate (p.images.length + 1) 0)) p.images.length (jn (ix p.chain (((p.images.length : Int) - 1)).toNat) (dgI im))) = (fits p.case (p.images ++ [im])) from by rw [set_last hcl, fits_snoc, hla, ← hch]]
            refine a_imp (imp_leakT 9 104 rfl rfl) ?_
            refine a_dseq (by kernel_rfl) ?_
            refine dr_put (d := 57) (v := .pt 101 0) rfl (og rfl (of_eff (s_field_pt rfl Try.underlying33 rfl ti9 rfl rfl rfl) rfl)) ?_
            refine dr_put (d := 58) (v := .d (.fl (.string p.case))) rfl (og rfl (op_load_pt rfl Try.underlying9 rfl rfl rfl rfl rfl)) ?_
            refine dr_put (d := 59) (v := .pt 101 1) rfl (og rfl (of_eff (s_field_pt rfl Try.underlying33 rfl ti29 rfl rfl rfl) rfl)) ?_
            refine dr_put (d := 60) (v := .d (.sl 5 (List.map eIm p.images))) rfl (og rfl (op_load_pt rfl Try.underlying29 rfl rfl rfl rfl rfl)) ?_
            refine dr_nam (d := 61) (v := .ow 105) (m := 105) (nw := [(105, .ow 25 5 (List.map eIm p.images))]) rfl (og rfl (op_callW 105 rfl Try.func34 nm34 rfl (.cons rfl (.d _) .nil) (imagesW p.images (by omega) hO) rfl)) ?_
            refine dr_put (d := 62) (v := .d (.ag (eIm im))) rfl (og rfl (of_eff (s_load_els rfl Try.underlying25 rfl ti25 rfl rfl rfl) rfl)) ?_
            refine dr_put (d := 63) (v := .d (.ag (eIm im))) rfl (og rfl (op_call rfl Try.func42 nm42 rfl (.cons rfl (.d _) .nil) (image_copy im (by have := hI.l; omega)) rfl)) ?_
            refine dr_put (d := 64) (v := .d (.sl 5 (List.map eIm [im]))) rfl (og rfl (of_eff (op_slices rfl Try.underlying29 ti25 rfl rfl rfl (by kernel_rfl) (xs := [.ag (eIm im)]) rfl rfl (.cons rfl rfl (.d _) rfl rfl rfl .nil) rfl) rfl)) ?_
            refine dr_nam (d := 65) (v := .ow 106) (m := 106) (nw := [(106, .ow 25 5 (List.map eIm (p.images ++ [im]))), (105, .no)]) rfl (og rfl (s_append 106 rfl Try.underlying29 ti25 rfl rfl rfl rfl rfl (.d _) (by first | omega | (simp only [List.length_append, List.length_cons, List.length_nil]; omega)) rfl)) ?_
            refine dr_put (d := 66) (v := .d (.sl 1 (List.map (rI .u64) ((fits p.case (p.images ++ [im])))))) rfl (og rfl (op_move rfl rfl rfl)) ?_
            refine dr_put (d := 67) (v := .d (.ag (ePk ((Pk.mk p.case (p.images ++ [im]) ((fits p.case (p.images ++ [im])))))))) rfl (og rfl (of_eff (op_build rfl Try.underlying33 ti33 rfl (by kernel_rfl) (by kernel_rfl) (pl := #[(0, 1), (1, 1), (2, 1)]) (by kernel_rfl) (.cons rfl rfl (.d _) rfl rfl rfl (.cons rfl rfl (.ow rfl) rfl rfl rfl (.cons rfl rfl (.d _) rfl rfl rfl .nil))) rfl) rfl)) ?_
            refine dr_sto (nw := [(103, .bx 33 ((ePk ((Pk.mk p.case (p.images ++ [im]) ((fits p.case (p.images ++ [im]))))))))]) rfl (og rfl (of_eff (s_store rfl rfl ti33 rfl rfl rfl rfl rfl rfl) rfl)) ?_
            refine dr_put (d := 5) (v := .d (.fl (.int .i64 0))) rfl (og rfl (op_assign rfl rfl rfl)) ?_
            refine dr_done rfl (by kernel_rfl) (by kernel_rfl) ?_
            refine a_ret ?_
            show ∃ ds, ResL _ _ _ ds ∧ RV.of ds = _
            refine ⟨[.ag [.fl (.string (((Pk.mk p.case (p.images ++ [im]) ((fits p.case (p.images ++ [im]))))).case)), .sl 5 (List.map eIm (((Pk.mk p.case (p.images ++ [im]) ((fits p.case (p.images ++ [im]))))).images)), .sl 1 (List.map (rI .u64) (((Pk.mk p.case (p.images ++ [im]) ((fits p.case (p.images ++ [im]))))).chain))], .fl (.int .i64 0)], (.cons (.cellT rfl rfl Try.underlying33 rfl ti33 rfl (Cv.ag (xs := [.fl (.string (((Pk.mk p.case (p.images ++ [im]) ((fits p.case (p.images ++ [im]))))).case)), .sl 5 (List.map eIm (((Pk.mk p.case (p.images ++ [im]) ((fits p.case (p.images ++ [im]))))).images)), .sl 1 (List.map (rI .u64) (((Pk.mk p.case (p.images ++ [im]) ((fits p.case (p.images ++ [im]))))).chain))]) (ys := [.fl (.string (((Pk.mk p.case (p.images ++ [im]) ((fits p.case (p.images ++ [im]))))).case)), .sl 5 (List.map eIm (((Pk.mk p.case (p.images ++ [im]) ((fits p.case (p.images ++ [im]))))).images)), .sl 1 (List.map (rI .u64) (((Pk.mk p.case (p.images ++ [im]) ((fits p.case (p.images ++ [im]))))).chain))]) ⟨Cv.refl _, Cv.refl _, Cv.refl _, trivial⟩)) (.cons (.tmp rfl (.d _)) .nil)), ?_⟩
            have hb : chB p.images im = 0 := by unfold chB; simp only [h7, h10]; rfl
            rw [add_ok h3 h4 hb]; rfl
          · skip
            have h13 := f_dec h11
            refine a_skip ?_
            show A _ _ _ _ _ _ _
            refine a_rseq ?_
            refine rg_put (d := 43) (v := .d (.fl (.int .i64 (p.images.length : Int)))) rfl (og rfl (op_move rfl rfl rfl)) ?_
            refine rg_put (d := 44) (v := .d (.fl (.int .i64 (((p.images.length : Int) + 1))))) rfl (og rfl (op_bin rfl rfl rfl (fun x y w => b_add64 _ _ _ x y w (by first | omega | (simp only [List.length_append, List.length_drop, List.length_replicate]; omega))) rfl)) ?_
            rw [show ((p.images.length : Int) + 1) = ((p.images.length + 1 : Nat) : Int) from by omega]
            have hla : (hsh (bys p.case)) = lastD p.case p.images := last_zero (by omega)
            refine rg_nam (d := 45) (v := .ow 107) (m := 107) (nw := [(107, .tr 23 1 (tD (rI .u64) ((List.replicate (p.images.length + 1) 0))))]) rfl (og rfl (of_eff (op_makeI 107 rfl Try.underlying31 ti23 (n := p.images.length + 1) rfl rfl (by first | omega | (simp only [List.length_append, List.length_drop, List.length_replicate]; omega)) (by first | omega | (simp only [List.length_append, List.length_drop, List.length_replicate]; omega)) (by first | omega | (simp only [List.length_append, List.length_drop, List.length_replicate]; omega)) (by first | omega | (simp only [List.length_append, List.length_drop, List.length_replicate]; omega)) rfl) rfl)) rfl ?_
            refine rg_put (d := 9) (v := .ow 107) rfl (og rfl (op_assign rfl rfl rfl)) ?_
            refine rg_done rfl ?_
            refine a_rseq ?_
            refine rg_put (d := 46) (v := .ow 107) rfl (og rfl (op_move rfl rfl rfl)) ?_
            refine rg_put (d := 47) (v := .pt 101 2) rfl (og rfl (of_eff (s_field_pt rfl Try.underlying33 rfl ti31 rfl rfl rfl) rfl)) ?_
            refine rg_put (d := 48) (v := .d (.sl 1 (List.map (rI .u64) p.chain))) rfl (og rfl (op_load_pt rfl Try.underlying31 rfl rfl rfl rfl rfl)) ?_
            refine rg_upd (d := 49) (v := .d (.fl (.int .i64 (p.chain.length : Int)))) (nw := [(107, .tr 23 1 (tD (rI .u64) ((p.chain ++ List.drop p.chain.length ((List.replicate (p.images.length + 1) 0))))))]) rfl (og rfl (of_eff (op_copyI rfl Try.underlying31 ti23 rfl rfl rfl (.d _) (by first | omega | (simp only [List.length_append, List.length_drop, List.length_replicate]; omega)) rfl) rfl)) ?_
            refine rg_done rfl ?_
            refine a_rseq ?_
            refine rg_put (d := 50) (v := .ow 107) rfl (og rfl (op_move rfl rfl rfl)) ?_
            refine rg_put (d := 51) (v := .d (.fl (.int .i64 (p.images.length : Int)))) rfl (og rfl (op_move rfl rfl rfl)) ?_
            refine rg_put (d := 52) (v := .d (.fl (.int .u64 ((hsh (bys p.case)))))) rfl (og rfl (op_move rfl rfl rfl)) ?_
            refine rg_put (d := 53) (v := .d (.ag (eIm im))) rfl (og rfl (of_eff (s_load_els rfl Try.underlying25 rfl ti25 rfl rfl rfl) rfl)) ?_
            refine rg_put (d := 54) (v := .d (.fl (.int .u64 (dgI im)))) rfl (og rfl (op_call rfl Try.func12 nm12 rfl (.cons rfl (.d _) .nil) (digest12 im hI) rfl)) ?_
            refine rg_put (d := 55) (v := .d (.fl (.int .u64 ((jn ((hsh (bys p.case))) (dgI im)))))) rfl (og rfl (op_call rfl Try.func41 nm41 rfl (.cons rfl (.d _) (.cons rfl (.d _) .nil)) (join41 ((hsh (bys p.case))) (dgI im) (by first | exact hsh_in _ | exact dgI_in _ | exact hP.u _ (ix_mem (by omega))) (by first | exact hsh_in _ | exact dgI_in _ | exact hP.u _ (ix_mem (by omega)))) rfl)) ?_
            refine rg_put (d := 56) (v := .pe 107 1 p.images.length 0) rfl (og rfl (op_index_tr rfl Try.underlying31 ti23 rfl rfl rfl (get_lt (tD_at (by first | omega | (simp only [List.length_append, List.length_drop, List.length_replicate]; omega)))) rfl)) ?_
            refine rg_sto (nw := [(107, .tr 23 1 ((((tD (rI .u64) ((p.chain ++ List.drop p.chain.length ((List.replicate (p.images.length + 1) 0)))))).set p.images.length [.dv (.fl (.int .u64 ((jn ((hsh (bys p.case))) (dgI im)))))])))]) rfl (og rfl (of_eff (op_store_pe rfl rfl ti23 rfl rfl (tD_at (by first | omega | (simp only [List.length_append, List.length_drop, List.length_replicate]; omega))) rfl (.d rfl) rfl rfl rfl) rfl)) ?_
            refine rg_done rfl ?_
            rw [tD_setI]
            rw [show (List.set (p.chain ++ List.drop p.chain.length (List.replicate (p.images.length + 1) 0)) p.images.length (jn (hsh (bys p.case)) (dgI im))) = (fits p.case (p.images ++ [im])) from by rw [set_last hcl, fits_snoc, hla, ← hch]]
            refine a_imp (imp_leakT 9 107 rfl rfl) ?_
            refine a_dseq (by kernel_rfl) ?_
            refine dr_put (d := 57) (v := .pt 101 0) rfl (og rfl (of_eff (s_field_pt rfl Try.underlying33 rfl ti9 rfl rfl rfl) rfl)) ?_
            refine dr_put (d := 58) (v := .d (.fl (.string p.case))) rfl (og rfl (op_load_pt rfl Try.underlying9 rfl rfl rfl rfl rfl)) ?_
            refine dr_put (d := 59) (v := .pt 101 1) rfl (og rfl (of_eff (s_field_pt rfl Try.underlying33 rfl ti29 rfl rfl rfl) rfl)) ?_
            refine dr_put (d := 60) (v := .d (.sl 5 (List.map eIm p.images))) rfl (og rfl (op_load_pt rfl Try.underlying29 rfl rfl rfl rfl rfl)) ?_
            refine dr_nam (d := 61) (v := .ow 108) (m := 108) (nw := [(108, .ow 25 5 (List.map eIm p.images))]) rfl (og rfl (op_callW 108 rfl Try.func34 nm34 rfl (.cons rfl (.d _) .nil) (imagesW p.images (by omega) hO) rfl)) ?_
            refine dr_put (d := 62) (v := .d (.ag (eIm im))) rfl (og rfl (of_eff (s_load_els rfl Try.underlying25 rfl ti25 rfl rfl rfl) rfl)) ?_
            refine dr_put (d := 63) (v := .d (.ag (eIm im))) rfl (og rfl (op_call rfl Try.func42 nm42 rfl (.cons rfl (.d _) .nil) (image_copy im (by have := hI.l; omega)) rfl)) ?_
            refine dr_put (d := 64) (v := .d (.sl 5 (List.map eIm [im]))) rfl (og rfl (of_eff (op_slices rfl Try.underlying29 ti25 rfl rfl rfl (by kernel_rfl) (xs := [.ag (eIm im)]) rfl rfl (.cons rfl rfl (.d _) rfl rfl rfl .nil) rfl) rfl)) ?_
            refine dr_nam (d := 65) (v := .ow 109) (m := 109) (nw := [(109, .ow 25 5 (List.map eIm (p.images ++ [im]))), (108, .no)]) rfl (og rfl (s_append 109 rfl Try.underlying29 ti25 rfl rfl rfl rfl rfl (.d _) (by first | omega | (simp only [List.length_append, List.length_cons, List.length_nil]; omega)) rfl)) ?_
            refine dr_put (d := 66) (v := .d (.sl 1 (List.map (rI .u64) ((fits p.case (p.images ++ [im])))))) rfl (og rfl (op_move rfl rfl rfl)) ?_
            refine dr_put (d := 67) (v := .d (.ag (ePk ((Pk.mk p.case (p.images ++ [im]) ((fits p.case (p.images ++ [im])))))))) rfl (og rfl (of_eff (op_build rfl Try.underlying33 ti33 rfl (by kernel_rfl) (by kernel_rfl) (pl := #[(0, 1), (1, 1), (2, 1)]) (by kernel_rfl) (.cons rfl rfl (.d _) rfl rfl rfl (.cons rfl rfl (.ow rfl) rfl rfl rfl (.cons rfl rfl (.d _) rfl rfl rfl .nil))) rfl) rfl)) ?_
            refine dr_sto (nw := [(103, .bx 33 ((ePk ((Pk.mk p.case (p.images ++ [im]) ((fits p.case (p.images ++ [im]))))))))]) rfl (og rfl (of_eff (s_store rfl rfl ti33 rfl rfl rfl rfl rfl rfl) rfl)) ?_
            refine dr_put (d := 5) (v := .d (.fl (.int .i64 0))) rfl (og rfl (op_assign rfl rfl rfl)) ?_
            refine dr_done rfl (by kernel_rfl) (by kernel_rfl) ?_
            refine a_ret ?_
            show ∃ ds, ResL _ _ _ ds ∧ RV.of ds = _
            refine ⟨[.ag [.fl (.string (((Pk.mk p.case (p.images ++ [im]) ((fits p.case (p.images ++ [im]))))).case)), .sl 5 (List.map eIm (((Pk.mk p.case (p.images ++ [im]) ((fits p.case (p.images ++ [im]))))).images)), .sl 1 (List.map (rI .u64) (((Pk.mk p.case (p.images ++ [im]) ((fits p.case (p.images ++ [im]))))).chain))], .fl (.int .i64 0)], (.cons (.cellT rfl rfl Try.underlying33 rfl ti33 rfl (Cv.ag (xs := [.fl (.string (((Pk.mk p.case (p.images ++ [im]) ((fits p.case (p.images ++ [im]))))).case)), .sl 5 (List.map eIm (((Pk.mk p.case (p.images ++ [im]) ((fits p.case (p.images ++ [im]))))).images)), .sl 1 (List.map (rI .u64) (((Pk.mk p.case (p.images ++ [im]) ((fits p.case (p.images ++ [im]))))).chain))]) (ys := [.fl (.string (((Pk.mk p.case (p.images ++ [im]) ((fits p.case (p.images ++ [im]))))).case)), .sl 5 (List.map eIm (((Pk.mk p.case (p.images ++ [im]) ((fits p.case (p.images ++ [im]))))).images)), .sl 1 (List.map (rI .u64) (((Pk.mk p.case (p.images ++ [im]) ((fits p.case (p.images ++ [im]))))).chain))]) ⟨Cv.refl _, Cv.refl _, Cv.refl _, trivial⟩)) (.cons (.tmp rfl (.d _)) .nil)), ?_⟩
            have hb : chB p.images im = 0 := by unfold chB; simp only [h7, h10]; rfl
            rw [add_ok h3 h4 hb]; rfl
end Go.Proofs.Ytfkipmdaffhkbaa.Wk
