/- Packages are built and extended. Condition: packages of a possible size. -/
import Derived.Test.YtaecdkhpidligaaB7
set_option linter.unusedSimpArgs false
set_option linter.unusedVariables false
namespace Go.Proofs.Ytaecdkhpidligaa.Wk
open Go Go.RowKit Go.Proofs.Ytaecdkhpidligaa.Av
theorem bld_form {id : ByteArray} {l : List Im} (h : isF id = false) : bld id l = (zPk, 5) := by unfold bld; rw [h]; rfl
theorem bld_lim {id : ByteArray} {l : List Im} (h : isF id = true) (h2 : decide ((1024 : Int) < (l.length : Int)) = true) : bld id l = (zPk, 3) := by unfold bld; rw [h, h2]; rfl
theorem bld_err {id : ByteArray} {l : List Im} {e : Int} (h : isF id = true) (h2 : decide ((1024 : Int) < (l.length : Int)) = false) (h3 : bE l = e) (h4 : e ≠ 0) : bld id l = (zPk, e) := by unfold bld; rw [h, h2, h3, if_pos h4]; rfl
theorem bld_ok {id : ByteArray} {l : List Im} (h : isF id = true) (h2 : decide ((1024 : Int) < (l.length : Int)) = false) (h3 : bE l = 0) : bld id l = (⟨id, l, fits id l⟩, 0) := by unfold bld; rw [h, h2, h3, if_neg (by simp)]; rfl
theorem bE_go (l : List Im) : bE l = fe (bk l) 0 (l.length - 0) := rfl
theorem add_sum {p : Pk} {im : Im} (h : lEq p.chain (fits p.case p.images) = false) : add p im = (p, 8) := by unfold add; rw [h]; rfl
theorem add_lim {p : Pk} {im : Im} (h : lEq p.chain (fits p.case p.images) = true) (h2 : decide ((1024 : Int) ≤ (p.images.length : Int)) = true) : add p im = (p, 3) := by unfold add; rw [h, h2]; rfl
theorem add_err {p : Pk} {im : Im} {e : Int} (h : lEq p.chain (fits p.case p.images) = true) (h2 : decide ((1024 : Int) ≤ (p.images.length : Int)) = false) (h3 : chB p.images im = e) (h4 : e ≠ 0) : add p im = (p, e) := by unfold add; rw [h, h2, h3, if_pos h4]; rfl
theorem add_ok {p : Pk} {im : Im} (h : lEq p.chain (fits p.case p.images) = true) (h2 : decide ((1024 : Int) ≤ (p.images.length : Int)) = false) (h3 : chB p.images im = 0) : add p im = (⟨p.case, p.images ++ [im], fits p.case (p.images ++ [im])⟩, 0) := by unfold add; rw [h, h2, h3, if_neg (by simp)]; rfl
theorem lEq_eq {α : Type} [DecidableEq α] {a b : List α} (h : lEq a b = true) : a = b := of_decide_eq_true h
theorem ix_app {α : Type} [Inhabited α] {l r : List α} {k : Nat} (h : k < l.length) : ix (l ++ r) k = ix l k := by unfold ix; rw [List.getD_eq_getElem?_getD, List.getD_eq_getElem?_getD, List.getElem?_append_left h]
theorem ix_snoc {α : Type} [Inhabited α] (l : List α) (x : α) : ix (l ++ [x]) l.length = x := by unfold ix; simp [List.getD]
theorem cl_app {x : Int} {L : List (List Int)} {r : List (List Int)} : ∀ k, k ≤ L.length → cl x (L ++ r) k = cl x L k
  | 0, _ => rfl
  | k + 1, h => by show jn _ _ = jn _ _; rw [cl_app k (by omega), ix_app (by omega)]
theorem co_app {x : Int} {L : List (List Int)} {r : List (List Int)} : ∀ k, k ≤ L.length → co x (L ++ r) k = co x L k
  | 0, _ => rfl
  | k + 1, h => by show co x (L ++ r) k ++ [cl x (L ++ r) (k + 1)] = co x L k ++ [cl x L (k + 1)]; rw [co_app k (by omega), cl_app (k + 1) h]
theorem ix_co {x : Int} {L : List (List Int)} : ∀ k j, j < k → ix (co x L k) j = cl x L (j + 1)
  | 0, j, h => by omega
  | k + 1, j, h => by
    show ix (co x L k ++ [cl x L (k + 1)]) j = _
    rcases Nat.lt_succ_iff_lt_or_eq.1 h with h1 | h1
    · rw [ix_app (by rw [co_len]; exact h1), ix_co k j h1]
    · subst h1
      have := ix_snoc (co x L j) (cl x L (j + 1))
      rw [co_len] at this
      exact this
theorem chn_snoc (x : Int) (L : List (List Int)) (b : List Int) : chn x (L ++ [b]) = chn x L ++ [jn (cl x L L.length) (hsh b)] := by
  unfold chn
  rw [List.length_append, List.length_singleton]
  show co x (L ++ [b]) L.length ++ [jn (cl x (L ++ [b]) L.length) (hsh (ix (L ++ [b]) L.length))] = _
  rw [co_app L.length (Nat.le_refl _), cl_app L.length (Nat.le_refl _), ix_snoc]
def lastD (id : ByteArray) (l : List Im) : Int := cl (hsh (bys id)) (l.map dsc) l.length
theorem last_zero {id : ByteArray} {l : List Im} (h : ¬ (0 : Int) < (l.length : Int)) : hsh (bys id) = lastD id l := by
  have : l.length = 0 := by omega
  unfold lastD; rw [this]; rfl
theorem last_pos {id : ByteArray} {l : List Im} {k : Nat} (h : k + 1 = l.length) : ix (fits id l) k = lastD id l := by
  unfold lastD fits chn
  rw [List.length_map, ← h]
  exact ix_co (k + 1) k (by omega)
theorem fits_snoc (id : ByteArray) (l : List Im) (im : Im) : fits id (l ++ [im]) = fits id l ++ [jn (lastD id l) (dgI im)] := by
  unfold fits lastD dgI
  rw [List.map_append, List.map_cons, List.map_nil, chn_snoc, List.length_map]
theorem tD_setI (k : IntKind) (X : List Int) (n : Nat) (v : Int) : (tD (rI k) X).set n [.dv (.fl (.int k v))] = tD (rI k) (X.set n v) := by
  unfold tD; rw [List.map_set, List.map_set]; rfl
theorem set_last {c : List Int} {n : Nat} {v : Int} (h : c.length = n) : (c ++ List.drop c.length (List.replicate (n + 1) 0)).set n v = c ++ [v] := by
  subst h
  rw [List.drop_replicate, List.set_append_right _ _ (Nat.le_refl _)]
  simp
theorem dgI_in (im : Im) : 0 ≤ dgI im ∧ dgI im ≤ 18446744073709551615 := hsh_in _

set_option maxHeartbeats 4000000 in
set_option maxRecDepth 100000 in
theorem build15 (id : ByteArray) (l : List Im) (hid : id.size ≤ 1000) (hl : l.length ≤ 3000) (hO : ∀ im ∈ l, Okd im) : Ctr Try.prog 6 [.fl (.string id), .sl 5 (List.map eIm l)] (.tu [.ag (ePk (bld id l).1), .fl (.int .i64 (bld id l).2)]) := by
  refine ctr (n := 47) (rs := #[.cell 4 29, .tmp 5]) (L := [(0, .d (.fl (.string id))), (1, .d (.sl 5 (List.map eIm l)))]) Try.func6 rfl rfl rfl rfl rfl (fun w0 U0 => ?_)
  refine a_rseq ?_
  refine rg_nam (d := 4) (v := .pt 101 0) (m := 101) (nw := [(101, .bx 29 ([.fl (.string (⟨#[]⟩)), .fl (.slice none 0 0), .fl (.slice none 0 0)]))]) rfl (og rfl (of_eff (s_alloc 101 rfl ti29 (by kernel_rfl) rfl) rfl)) rfl ?_
  refine rg_put (d := 5) (v := .d (.fl (.int .i64 0))) rfl (og rfl (op_assign rfl rfl rfl)) ?_
  refine rg_done rfl ?_
  refine a_seq ?_
  refine a_rseq ?_
  refine rg_put (d := 10) (v := .d (.fl (.string id))) rfl (og rfl (op_move rfl rfl rfl)) ?_
  refine rg_put (d := 11) (v := .d (.fl (.bool (isF id)))) rfl (og rfl (op_call rfl Try.func11 nm11 rfl (.cons rfl (.d _) .nil) (isF32 id) rfl)) ?_
  refine rg_put (d := 12) (v := .d (.fl (.bool ((!(isF id)))))) rfl (og rfl (op_un rfl rfl (u_not _) rfl)) ?_
  refine rg_done rfl ?_
  refine a_cond rfl (fun h1 => ?_) (fun h1 => ?_)
  · skip
    have h2 := t_not h1
    refine a_rseq ?_
    refine rg_put (d := 13) (v := .d (.ag [.fl (.string (⟨#[]⟩)), .fl (.slice none 0 0), .fl (.slice none 0 0)])) rfl (og rfl (of_eff (op_build rfl Try.underlying29 ti29 rfl (by kernel_rfl) (by kernel_rfl) (pl := #[(0, 1), (1, 1), (2, 1)]) (by kernel_rfl) .nil rfl) rfl)) ?_
    refine rg_sto (nw := [(101, .bx 29 ([.fl (.string (⟨#[]⟩)), .fl (.slice none 0 0), .fl (.slice none 0 0)]))]) rfl (og rfl (of_eff (s_store rfl rfl ti29 rfl rfl rfl rfl rfl rfl) rfl)) ?_
    refine rg_put (d := 5) (v := .d (.fl (.int .i64 5))) rfl (og rfl (op_assign rfl rfl rfl)) ?_
    refine rg_done rfl ?_
    refine a_ret ?_
    show ∃ ds, ResL _ _ _ ds ∧ RV.of ds = _
    refine ⟨[.ag [.fl (.string (⟨#[]⟩)), .sl 5 (List.map eIm []), .sl 1 (List.map (rI .u64) [])], .fl (.int .i64 5)], (.cons (.cellT rfl rfl Try.underlying29 rfl ti29 rfl (Cv.ag (xs := [.fl (.string (⟨#[]⟩)), .fl (.slice none 0 0), .fl (.slice none 0 0)]) (ys := [.fl (.string (⟨#[]⟩)), .sl 5 (List.map eIm []), .sl 1 (List.map (rI .u64) [])]) ⟨Cv.refl _, Cv.nil _, Cv.nil _, trivial⟩)) (.cons (.tmp rfl (.d _)) .nil)), ?_⟩
    rw [bld_form h2]; rfl
  · skip
    have h3 := f_not h1
    refine a_skip ?_
    show A _ _ _ _ _ _ _
    refine a_seq ?_
    refine a_rseq ?_
    refine rg_put (d := 14) (v := .d (.sl 5 (List.map eIm l))) rfl (og rfl (op_move rfl rfl rfl)) ?_
    refine rg_put (d := 15) (v := .d (.fl (.int .i64 (l.length : Int)))) rfl (og rfl (s_len rfl Try.underlying23 rfl rfl)) ?_
    refine rg_put (d := 16) (v := .d (.fl (.bool ((decide (1024 < (l.length : Int))))))) rfl (og rfl (op_bin rfl rfl rfl (b_gtr _ _ _ _) rfl)) ?_
    refine rg_done rfl ?_
    refine a_cond rfl (fun h4 => ?_) (fun h4 => ?_)
    · skip
      have h5 := t_dec h4
      refine a_rseq ?_
      refine rg_put (d := 17) (v := .d (.ag [.fl (.string (⟨#[]⟩)), .fl (.slice none 0 0), .fl (.slice none 0 0)])) rfl (og rfl (of_eff (op_build rfl Try.underlying29 ti29 rfl (by kernel_rfl) (by kernel_rfl) (pl := #[(0, 1), (1, 1), (2, 1)]) (by kernel_rfl) .nil rfl) rfl)) ?_
      refine rg_sto (nw := [(101, .bx 29 ([.fl (.string (⟨#[]⟩)), .fl (.slice none 0 0), .fl (.slice none 0 0)]))]) rfl (og rfl (of_eff (s_store rfl rfl ti29 rfl rfl rfl rfl rfl rfl) rfl)) ?_
      refine rg_put (d := 5) (v := .d (.fl (.int .i64 3))) rfl (og rfl (op_assign rfl rfl rfl)) ?_
      refine rg_done rfl ?_
      refine a_ret ?_
      show ∃ ds, ResL _ _ _ ds ∧ RV.of ds = _
      refine ⟨[.ag [.fl (.string (⟨#[]⟩)), .sl 5 (List.map eIm []), .sl 1 (List.map (rI .u64) [])], .fl (.int .i64 3)], (.cons (.cellT rfl rfl Try.underlying29 rfl ti29 rfl (Cv.ag (xs := [.fl (.string (⟨#[]⟩)), .fl (.slice none 0 0), .fl (.slice none 0 0)]) (ys := [.fl (.string (⟨#[]⟩)), .sl 5 (List.map eIm []), .sl 1 (List.map (rI .u64) [])]) ⟨Cv.refl _, Cv.nil _, Cv.nil _, trivial⟩)) (.cons (.tmp rfl (.d _)) .nil)), ?_⟩
      rw [bld_lim h3 h4]; rfl
    · skip
      have h6 := f_dec h4
      refine a_skip ?_
      show A _ _ _ _ _ _ _
      refine a_rseq ?_
      refine rg_nam (d := 18) (v := .ow 102) (m := 102) (nw := [(102, .mp [])]) rfl (og rfl (op_makeMap 102 rfl rfl)) rfl ?_
      refine rg_put (d := 6) (v := .ow 102) rfl (og rfl (op_assign rfl rfl rfl)) ?_
      refine rg_done rfl ?_
      refine a_seq ?_
      refine a_rseq ?_
      refine rg_put (d := 19) (v := .d (.sl 5 (List.map eIm l))) rfl (og rfl (op_move rfl rfl rfl)) ?_
      refine rg_put (d := 20) (v := .d (.fl (.int .i64 (l.length : Int)))) rfl (og rfl (s_len rfl Try.underlying23 rfl rfl)) ?_
      refine rg_put (d := 21) (v := .d (.fl (.int .i64 0))) rfl (og rfl (op_move rfl rfl rfl)) ?_
      refine rg_done rfl ?_
      refine a_block ?_
      refine a_loop (ι := Nat) (fun k => SS [(0, .d (.fl (.string id))), (1, .d (.sl 5 (List.map eIm l))), (4, .pt 101 0), (6, .ow 102), (12, .d (.fl (.bool ((!(isF id)))))), (16, .d (.fl (.bool ((decide (1024 < (l.length : Int))))))), (19, .d (.sl 5 (List.map eIm l))), (20, .d (.fl (.int .i64 (l.length : Int)))), (21, .d (.fl (.int .i64 (k : Int))))] [(101, .bx 29 ([.fl (.string (⟨#[]⟩)), .fl (.slice none 0 0), .fl (.slice none 0 0)])), (102, .mp ((setI (l.take k))))]) (fun k => k ≤ l.length ∧ bE l = fe (bk l) k (l.length - k)) (fun k => l.length - k) 0 (⟨by omega, bE_go l⟩) (imp_forget rfl ⟨rfl, rfl, rfl, rfl, rfl, rfl, rfl, rfl, (by first | rfl | exact ci (by omega) | exact ci (by simp) | exact cd (by simp) | simp), trivial⟩ ⟨rfl, (by first | rfl | simp), trivial⟩) (fun k hok => ?_)
      obtain ⟨hk, hc⟩ := hok
      refine a_rseq ?_
      refine rg_put (d := 22) (v := .d (.fl (.bool ((decide ((k : Int) < (l.length : Int))))))) rfl (og rfl (op_bin rfl rfl rfl (b_lss _ _ _ _) rfl)) ?_
      refine rg_done rfl ?_
      refine a_seq ?_
      refine a_cond rfl (fun h7 => ?_) (fun h7 => ?_)
      · skip
        have h8 := t_dec h7
        refine a_skip ?_
        show A _ _ _ _ _ _ _
        refine a_seq ?_
        refine a_block ?_
        refine a_rseq ?_
        refine rg_put (d := 23) (v := .el ((eIm (ix l k)))) rfl (og rfl (s_index rfl Try.underlying23 ti40 rfl rfl (by omega) (row_at (by omega)) rfl)) ?_
        refine rg_put (d := 24) (v := .d (.ag (eIm (ix l k)))) rfl (og rfl (of_eff (s_load_els rfl Try.underlying40 rfl ti40 rfl rfl rfl) rfl)) ?_
        refine rg_nam (d := 8) (v := .pt 103 0) (m := 103) (nw := [(103, .bx 40 ([.fl (.string (⟨#[]⟩)), .fl (.int .i64 0), .fl (.int .i64 0), .fl (.slice none 0 0), .fl (.int .u64 0)]))]) rfl (og rfl (of_eff (s_alloc 103 rfl ti40 (by kernel_rfl) rfl) rfl)) rfl ?_
        refine rg_sto (nw := [(103, .bx 40 ((eIm (ix l k))))]) rfl (og rfl (of_eff (s_store rfl rfl ti40 rfl rfl rfl rfl rfl rfl) rfl)) ?_
        refine rg_done rfl ?_
        refine a_seq ?_
        refine a_rseq ?_
        refine rg_put (d := 25) (v := .d (.ag (eIm (ix l k)))) rfl (og rfl (of_eff (s_load_pts rfl Try.underlying40 rfl ti40 rfl rfl rfl rfl) rfl)) ?_
        refine rg_put (d := 26) (v := .d (.fl (.int .i64 ((chI (ix l k)))))) rfl (og rfl (op_call rfl Try.func12 nm12 rfl (.cons rfl (.d _) .nil) (check33 (ix l k)) rfl)) ?_
        refine rg_put (d := 9) (v := .d (.fl (.int .i64 ((chI (ix l k)))))) rfl (og rfl (op_assign rfl rfl rfl)) ?_
        refine rg_done rfl ?_
        refine a_rseq ?_
        refine rg_put (d := 27) (v := .d (.fl (.int .i64 ((chI (ix l k)))))) rfl (og rfl (op_move rfl rfl rfl)) ?_
        refine rg_put (d := 28) (v := .d (.fl (.bool (((chI (ix l k)) != 0))))) rfl (og rfl (op_bin rfl rfl rfl (b_neq _ _ _ _) rfl)) ?_
        refine rg_done rfl ?_
        refine a_cond rfl (fun h9 => ?_) (fun h9 => ?_)
        · skip
          have h10 := t_bne h9
          refine a_rseq ?_
          refine rg_put (d := 29) (v := .d (.ag [.fl (.string (⟨#[]⟩)), .fl (.slice none 0 0), .fl (.slice none 0 0)])) rfl (og rfl (of_eff (op_build rfl Try.underlying29 ti29 rfl (by kernel_rfl) (by kernel_rfl) (pl := #[(0, 1), (1, 1), (2, 1)]) (by kernel_rfl) .nil rfl) rfl)) ?_
          refine rg_put (d := 30) (v := .d (.fl (.int .i64 ((chI (ix l k)))))) rfl (og rfl (op_move rfl rfl rfl)) ?_
          refine rg_sto (nw := [(101, .bx 29 ([.fl (.string (⟨#[]⟩)), .fl (.slice none 0 0), .fl (.slice none 0 0)]))]) rfl (og rfl (of_eff (s_store rfl rfl ti29 rfl rfl rfl rfl rfl rfl) rfl)) ?_
          refine rg_put (d := 5) (v := .d (.fl (.int .i64 ((chI (ix l k)))))) rfl (og rfl (op_assign rfl rfl rfl)) ?_
          refine rg_done rfl ?_
          refine a_ret ?_
          show ∃ ds, ResL _ _ _ ds ∧ RV.of ds = _
          refine ⟨[.ag [.fl (.string (⟨#[]⟩)), .sl 5 (List.map eIm []), .sl 1 (List.map (rI .u64) [])], .fl (.int .i64 ((chI (ix l k))))], (.cons (.cellT rfl rfl Try.underlying29 rfl ti29 rfl (Cv.ag (xs := [.fl (.string (⟨#[]⟩)), .fl (.slice none 0 0), .fl (.slice none 0 0)]) (ys := [.fl (.string (⟨#[]⟩)), .sl 5 (List.map eIm []), .sl 1 (List.map (rI .u64) [])]) ⟨Cv.refl _, Cv.nil _, Cv.nil _, trivial⟩)) (.cons (.tmp rfl (.d _)) .nil)), ?_⟩
          have hb : bk l k = chI (ix l k) := by unfold bk chB; simp only [h9]; rfl
          rw [bld_err h3 h4 (fe_yes (by omega) hc hb (t_bne h9)) (t_bne h9)]; rfl
        · skip
          have h11 := f_bne h9
          refine a_skip ?_
          show A _ _ _ _ _ _ _
          refine a_seq ?_
          refine a_rseq ?_
          refine rg_put (d := 31) (v := .ow 102) rfl (og rfl (op_move rfl rfl rfl)) ?_
          refine rg_put (d := 32) (v := .pt 103 0) rfl (og rfl (of_eff (s_field_pt rfl Try.underlying40 rfl ti9 rfl rfl rfl) rfl)) ?_
          refine rg_put (d := 33) (v := .d (.fl (.string ((ix l k).id)))) rfl (og rfl (op_load_pt rfl Try.underlying9 rfl rfl rfl rfl rfl)) ?_
          rcases fot ((dupI (l.take k) ((ix l k).id))) with h12 | h12
          · skip
            refine rg_put (d := 34) (v := .d (.fl (.bool false))) rfl (og rfl (op_lookup1 rfl Try.underlying46 Try.underlying9 rfl ti4 rfl rfl (.ow rfl) rfl (r := none) ((mfind_set Im.id _ _).trans (by rw [show (List.any _ _) = _ from h12]; rfl)) rfl rfl)) ?_
            refine rg_done rfl ?_
            refine a_condF rfl rfl ?_
            refine a_skip ?_
            show A _ _ _ _ _ _ _
            refine a_region ?_
            refine rg_put (d := 36) (v := .ow 102) rfl (og rfl (op_move rfl rfl rfl)) ?_
            refine rg_put (d := 37) (v := .pt 103 0) rfl (og rfl (of_eff (s_field_pt rfl Try.underlying40 rfl ti9 rfl rfl rfl) rfl)) ?_
            refine rg_put (d := 38) (v := .d (.fl (.string ((ix l k).id)))) rfl (og rfl (op_load_pt rfl Try.underlying9 rfl rfl rfl rfl rfl)) ?_
            refine rg_sto (nw := [(102, .mp ((setI (l.take k)) ++ [((.string ((ix l k).id)), .fl (.bool true))]))]) rfl (og rfl (op_mapPush rfl rfl Try.underlying46 Try.underlying9 rfl rfl rfl rfl ((mfind_set Im.id _ _).trans (by rw [show (List.any _ _) = _ from h12]; rfl)) rfl)) ?_
            refine rg_done rfl ?_
            show A _ _ _ _ _ _ _
            refine a_region ?_
            refine rg_put (d := 39) (v := .d (.fl (.int .i64 (((k : Int) + 1))))) rfl (og rfl (op_bin rfl rfl rfl (fun x y w => b_add64 _ _ _ x y w (by omega)) rfl)) ?_
            refine rg_put (d := 21) (v := .d (.fl (.int .i64 (((k : Int) + 1))))) rfl (og rfl (op_move rfl rfl rfl)) ?_
            refine rg_done rfl ?_
            have hb : bk l k = 0 := by unfold bk chB; simp only [h9, h12]; rfl
            show ∃ i, _ ∧ _ ∧ Imp _ _ _ _ _
            refine ⟨k + 1, ⟨by omega, fe_no (by omega) hc hb⟩, by omega, imp_forget rfl ⟨rfl, rfl, rfl, rfl, rfl, rfl, rfl, rfl, (by first | rfl | exact ci (by omega) | exact ci (by simp) | exact cd (by simp) | simp), trivial⟩ ⟨rfl, (congrArg Ob.mp (setI_take (by omega))), trivial⟩⟩
          · skip
            refine rg_put (d := 34) (v := .d (.fl (.bool true))) rfl (og rfl (op_lookup1 rfl Try.underlying46 Try.underlying9 rfl ti4 rfl rfl (.ow rfl) rfl (r := (some (.fl (.bool true)))) ((mfind_set Im.id _ _).trans (by rw [show (List.any _ _) = _ from h12]; rfl)) rfl rfl)) ?_
            refine rg_done rfl ?_
            refine a_condK rfl rfl ?_
            refine a_rseq ?_
            refine rg_put (d := 35) (v := .d (.ag [.fl (.string (⟨#[]⟩)), .fl (.slice none 0 0), .fl (.slice none 0 0)])) rfl (og rfl (of_eff (op_build rfl Try.underlying29 ti29 rfl (by kernel_rfl) (by kernel_rfl) (pl := #[(0, 1), (1, 1), (2, 1)]) (by kernel_rfl) .nil rfl) rfl)) ?_
            refine rg_sto (nw := [(101, .bx 29 ([.fl (.string (⟨#[]⟩)), .fl (.slice none 0 0), .fl (.slice none 0 0)]))]) rfl (og rfl (of_eff (s_store rfl rfl ti29 rfl rfl rfl rfl rfl rfl) rfl)) ?_
            refine rg_put (d := 5) (v := .d (.fl (.int .i64 9))) rfl (og rfl (op_assign rfl rfl rfl)) ?_
            refine rg_done rfl ?_
            refine a_ret ?_
            show ∃ ds, ResL _ _ _ ds ∧ RV.of ds = _
            refine ⟨[.ag [.fl (.string (⟨#[]⟩)), .sl 5 (List.map eIm []), .sl 1 (List.map (rI .u64) [])], .fl (.int .i64 9)], (.cons (.cellT rfl rfl Try.underlying29 rfl ti29 rfl (Cv.ag (xs := [.fl (.string (⟨#[]⟩)), .fl (.slice none 0 0), .fl (.slice none 0 0)]) (ys := [.fl (.string (⟨#[]⟩)), .sl 5 (List.map eIm []), .sl 1 (List.map (rI .u64) [])]) ⟨Cv.refl _, Cv.nil _, Cv.nil _, trivial⟩)) (.cons (.tmp rfl (.d _)) .nil)), ?_⟩
            have hb : bk l k = 9 := by unfold bk chB; simp only [h9, h12]; rfl
            rw [bld_err h3 h4 (fe_yes (by omega) hc hb (by decide)) (by decide)]; rfl
      · skip
        have h13 := f_dec h7
        refine a_exit ?_
        show A _ _ _ _ _ _ _
        refine a_rseq ?_
        refine rg_put (d := 40) (v := .d (.fl (.string id))) rfl (og rfl (op_move rfl rfl rfl)) ?_
        refine rg_put (d := 41) (v := .d (.sl 5 (List.map eIm l))) rfl (og rfl (op_move rfl rfl rfl)) ?_
        refine rg_nam (d := 42) (v := .ow 104) (m := 104) (nw := [(104, .ow 40 5 (List.map eIm l))]) rfl (og rfl (op_callW 104 rfl Try.func13 nm13 rfl (.cons rfl (.d _) .nil) (imagesW l (by omega) hO) rfl)) rfl ?_
        refine rg_put (d := 43) (v := .d (.fl (.string id))) rfl (og rfl (op_move rfl rfl rfl)) ?_
        refine rg_put (d := 44) (v := .d (.sl 5 (List.map eIm l))) rfl (og rfl (op_move rfl rfl rfl)) ?_
        refine rg_put (d := 45) (v := .d (.sl 1 (List.map (rI .u64) (fits id l)))) rfl (og rfl (op_call rfl Try.func14 nm14 rfl (.cons rfl (.d _) (.cons rfl (.d _) .nil)) (fits35 id l (by omega) (by first | omega | (simp only [List.length_append, List.length_cons, List.length_nil]; omega)) hO) rfl)) ?_
        refine rg_put (d := 46) (v := .d (.ag (ePk ((Pk.mk id l (fits id l)))))) rfl (og rfl (of_eff (op_build rfl Try.underlying29 ti29 rfl (by kernel_rfl) (by kernel_rfl) (pl := #[(0, 1), (1, 1), (2, 1)]) (by kernel_rfl) (.cons rfl rfl (.d _) rfl rfl rfl (.cons rfl rfl (.ow rfl) rfl rfl rfl (.cons rfl rfl (.d _) rfl rfl rfl .nil))) rfl) rfl)) ?_
        refine rg_sto (nw := [(101, .bx 29 ((ePk ((Pk.mk id l (fits id l))))))]) rfl (og rfl (of_eff (s_store rfl rfl ti29 rfl rfl rfl rfl rfl rfl) rfl)) ?_
        refine rg_put (d := 5) (v := .d (.fl (.int .i64 0))) rfl (og rfl (op_assign rfl rfl rfl)) ?_
        refine rg_done rfl ?_
        refine a_ret ?_
        show ∃ ds, ResL _ _ _ ds ∧ RV.of ds = _
        refine ⟨[.ag [.fl (.string (((Pk.mk id l (fits id l))).case)), .sl 5 (List.map eIm (((Pk.mk id l (fits id l))).images)), .sl 1 (List.map (rI .u64) (((Pk.mk id l (fits id l))).chain))], .fl (.int .i64 0)], (.cons (.cellT rfl rfl Try.underlying29 rfl ti29 rfl (Cv.ag (xs := [.fl (.string (((Pk.mk id l (fits id l))).case)), .sl 5 (List.map eIm (((Pk.mk id l (fits id l))).images)), .sl 1 (List.map (rI .u64) (((Pk.mk id l (fits id l))).chain))]) (ys := [.fl (.string (((Pk.mk id l (fits id l))).case)), .sl 5 (List.map eIm (((Pk.mk id l (fits id l))).images)), .sl 1 (List.map (rI .u64) (((Pk.mk id l (fits id l))).chain))]) ⟨Cv.refl _, Cv.refl _, Cv.refl _, trivial⟩)) (.cons (.tmp rfl (.d _)) .nil)), ?_⟩
        rw [fe_end (by omega)] at hc
        rw [bld_ok h3 h4 hc]; rfl
end Go.Proofs.Ytaecdkhpidligaa.Wk
