/- Tariffs by the reference, lists of tariffs. No condition. -/
import Derived.Test.YtlmihhecpaomjaaB4
set_option linter.unusedSimpArgs false
set_option linter.unusedVariables false
namespace Go.Proofs.Ytlmihhecpaomjaa.Wk
open Go Go.RowKit Go.Proofs.Ytlmihhecpaomjaa.Av
def ov (a b : Iv) : Bool := decide (max a.fr b.fr < min a.to b.to)
def ovl (l : List Ta) (k : Nat) : Bool := (l.take k).any fun y => ov (ix l k).val y.val
theorem ovl_no {l : List Ta} {k : Nat} (hk : k < l.length) (hq : ∀ q, q < k → ov (ix l k).val (ix l q).val = false) : ovl l k = false := by
  unfold ovl
  refine any_no (fun j hj => ?_)
  rw [List.length_take] at hj
  rw [take_ix' (by omega)]
  exact hq j (by omega)
theorem ovl_yes {l : List Ta} {k j : Nat} (hk : k < l.length) (hj : j < k) (h : ov (ix l k).val (ix l j).val = true) : ovl l k = true := by
  unfold ovl
  refine any_at (k := j) (by rw [List.length_take]; omega) ?_
  rw [take_ix' hj]; exact h
noncomputable def al1 (p : List Pnt) (l : List Ta) (k : Nat) : Int := bif tk p (ix l k) != 0 then tk p (ix l k) else bif ovl l k then 12 else 0
noncomputable def alE (p : List Pnt) (l : List Ta) : Int := fe (al1 p l) 0 l.length
noncomputable def al (p : List Pnt) (l : List Ta) : Int := bif decide (1024 < (l.length : Int)) then 3 else alE p l
theorem al_l {p : List Pnt} {l : List Ta} (h : decide (1024 < (l.length : Int)) = true) : al p l = 3 := by unfold al; rw [h]; rfl
theorem al_e {p : List Pnt} {l : List Ta} (h : decide (1024 < (l.length : Int)) = false) : al p l = alE p l := by unfold al; rw [h]; rfl
theorem al_tk {p : List Pnt} {l : List Ta} {k : Nat} (h : (tk p (ix l k) != 0) = true) : al1 p l k = tk p (ix l k) := by unfold al1; rw [h]; rfl
theorem al_ov {p : List Pnt} {l : List Ta} {k : Nat} (h : (tk p (ix l k) != 0) = false) (h2 : ovl l k = true) : al1 p l k = 12 := by unfold al1; rw [h, h2]; rfl
theorem al_0 {p : List Pnt} {l : List Ta} {k : Nat} (h : (tk p (ix l k) != 0) = false) (h2 : ovl l k = false) : al1 p l k = 0 := by unfold al1; rw [h, h2]; rfl
theorem al_v {p : List Pnt} {l : List Ta} {k : Nat} (h : al1 p l k = 0) : vI (ix l k).val = true := by
  cases h1 : (tk p (ix l k) != 0) with
  | false => exact tk_0 (by simpa using h1)
  | true => rw [al_tk h1] at h; rw [h] at h1; cases h1
def shortB (x : Ta) : Bool := decide ((x.bands.length : Int) ≤ 40) && decide ((x.rates.length : Int) ≤ 60)
def fewB (l : List Ta) : Bool := !(decide ((12 : Int) < (l.length : Int))) && l.all shortB
theorem few_lim {l : List Ta} (h : decide ((12 : Int) < (l.length : Int)) = true) : fewB l = false := by unfold fewB; rw [h]; rfl
theorem few_no {l : List Ta} {k : Nat} (hk : k < l.length) (h : shortB (ix l k) = false) : fewB l = false := by unfold fewB; rw [all_no hk h, Bool.and_false]
theorem few_yes {l : List Ta} (h1 : decide ((12 : Int) < (l.length : Int)) = false) (h : ∀ q, q < l.length → shortB (ix l q) = true) : fewB l = true := by unfold fewB; rw [h1, all_yes h]; rfl
def smlT (t : Tpg) : Bool := (decide ((t.net.pts.length : Int) ≤ 12) && decide ((t.net.lks.length : Int) ≤ 30)) && decide ((t.syss.length : Int) ≤ 100)

set_option maxHeartbeats 4000000 in
set_option maxRecDepth 100000 in
theorem al_c (l : List Ta) (t : Tpg) : Ctr Try.prog 12 [.sl 4 (List.map eTa l), .ag (eTpg t)] (.d (.fl (.int .i64 (al (kn t) l)))) := by
  refine ctr (n := 54) (rs := #[.tmp 4]) (L := [(0, .d (.sl 4 (List.map eTa l))), (1, .d (.ag (eTpg t)))]) Try.func12 rfl rfl rfl rfl rfl (fun w0 U0 => ?_)
  refine a_rseq ?_
  refine rg_nam (d := 3) (v := .pt 101 0) (m := 101) (nw := [(101, .bx 34 (eTpg t))]) rfl (og rfl (of_eff (op_box 101 rfl rfl rfl rfl) rfl)) rfl ?_
  refine rg_put (d := 4) (v := .d (.fl (.int .i64 0))) rfl (og rfl (op_assign rfl rfl rfl)) ?_
  refine rg_done rfl ?_
  refine a_seq ?_
  refine a_rseq ?_
  refine rg_put (d := 11) (v := .d (.sl 4 (List.map eTa l))) rfl (og rfl (op_move rfl rfl rfl)) ?_
  refine rg_put (d := 12) (v := .d (.fl (.int .i64 (l.length : Int)))) rfl (og rfl (s_len rfl Try.underlying42 rfl rfl)) ?_
  refine rg_put (d := 13) (v := .d (.fl (.bool ((decide (1024 < (l.length : Int))))))) rfl (og rfl (op_bin rfl rfl rfl (b_gtr _ _ _ _) rfl)) ?_
  refine rg_done rfl ?_
  refine a_cond rfl (fun h1 => ?_) (fun h1 => ?_)
  · skip
    have h2 := t_dec h1
    refine a_rseq ?_
    refine rg_put (d := 4) (v := .d (.fl (.int .i64 3))) rfl (og rfl (op_assign rfl rfl rfl)) ?_
    refine rg_done rfl ?_
    refine a_ret ?_
    show ∃ ds, ResL _ _ _ ds ∧ RV.of ds = _
    refine ⟨[.fl (.int .i64 3)], (.cons (.tmp rfl (.d _)) .nil), ?_⟩
    rw [al_l h1]; rfl
  · skip
    have h3 := f_dec h1
    refine a_skip ?_
    show A _ _ _ _ _ _ _
    refine a_rseq ?_
    refine rg_put (d := 14) (v := .d (.ag (eTpg t))) rfl (og rfl (of_eff (s_load_pts rfl Try.underlying34 rfl ti34 rfl rfl rfl rfl) rfl)) ?_
    refine rg_put (d := 15) (v := .d (.mp (setQ (kn t)))) rfl (og rfl (op_call rfl Try.func17 nm17 rfl (.cons rfl (.d _) .nil) (points_c t) rfl)) ?_
    refine rg_put (d := 5) (v := .d (.mp (setQ (kn t)))) rfl (og rfl (op_assign rfl rfl rfl)) ?_
    refine rg_done rfl ?_
    refine a_seq ?_
    refine a_rseq ?_
    refine rg_put (d := 16) (v := .d (.sl 4 (List.map eTa l))) rfl (og rfl (op_move rfl rfl rfl)) ?_
    refine rg_put (d := 17) (v := .d (.fl (.int .i64 (l.length : Int)))) rfl (og rfl (s_len rfl Try.underlying42 rfl rfl)) ?_
    refine rg_put (d := 18) (v := .d (.fl (.int .i64 0))) rfl (og rfl (op_move rfl rfl rfl)) ?_
    refine rg_done rfl ?_
    refine a_block ?_
    refine a_loop (ι := Nat) (fun k => SS [(0, .d (.sl 4 (List.map eTa l))), (1, .d (.ag (eTpg t))), (3, .pt 101 0), (5, .d (.mp (setQ (kn t)))), (13, .d (.fl (.bool ((decide (1024 < (l.length : Int))))))), (16, .d (.sl 4 (List.map eTa l))), (17, .d (.fl (.int .i64 (l.length : Int)))), (18, .d (.fl (.int .i64 (k : Int))))] [(101, .bx 34 (eTpg t))]) (fun k => k ≤ l.length ∧ alE (kn t) l = fe (al1 (kn t) l) k (l.length - k) ∧ ∀ q, q < k → al1 (kn t) l q = 0) (fun k => l.length - k) 0 (⟨by omega, rfl, fun q h => by omega⟩) (imp_forget rfl ⟨rfl, rfl, rfl, rfl, rfl, rfl, rfl, (by first | rfl | exact ci (by omega) | exact ci (by simp) | exact cd (by simp) | simp), trivial⟩ ⟨rfl, trivial⟩) (fun k hok => ?_)
    obtain ⟨hk, hc, hz⟩ := hok
    refine a_rseq ?_
    refine rg_put (d := 19) (v := .d (.fl (.bool ((decide ((k : Int) < (l.length : Int))))))) rfl (og rfl (op_bin rfl rfl rfl (b_lss _ _ _ _) rfl)) ?_
    refine rg_done rfl ?_
    refine a_seq ?_
    refine a_cond rfl (fun h4 => ?_) (fun h4 => ?_)
    · skip
      have h5 := t_dec h4
      refine a_skip ?_
      show A _ _ _ _ _ _ _
      refine a_seq ?_
      refine a_block ?_
      refine a_rseq ?_
      refine rg_put (d := 20) (v := .d (.fl (.int .i64 (k : Int)))) rfl (og rfl (op_move rfl rfl rfl)) ?_
      refine rg_put (d := 21) (v := .el ((eTa (ix l k)))) rfl (og rfl (s_index rfl Try.underlying42 ti27 rfl rfl (by omega) (row_at (by omega)) rfl)) ?_
      refine rg_put (d := 22) (v := .d (.ag (eTa (ix l k)))) rfl (og rfl (of_eff (s_load_els rfl Try.underlying27 rfl ti27 rfl rfl rfl) rfl)) ?_
      refine rg_nam (d := 7) (v := .pt 102 0) (m := 102) (nw := [(102, .bx 27 [.fl (.int .i64 0), .fl (.int .i64 0), .fl (.slice none 0 0), .fl (.slice none 0 0)])]) rfl (og rfl (of_eff (s_alloc 102 rfl ti27 (by kernel_rfl) rfl) rfl)) rfl ?_
      refine rg_put (d := 6) (v := .d (.fl (.int .i64 (k : Int)))) rfl (og rfl (op_assign rfl rfl rfl)) ?_
      refine rg_sto (nw := [(102, .bx 27 ((eTa (ix l k))))]) rfl (og rfl (of_eff (s_store rfl rfl ti27 rfl rfl rfl rfl rfl rfl) rfl)) ?_
      refine rg_done rfl ?_
      refine a_seq ?_
      refine a_rseq ?_
      refine rg_put (d := 23) (v := .d (.ag (eTa (ix l k)))) rfl (og rfl (of_eff (s_load_pts rfl Try.underlying27 rfl ti27 rfl rfl rfl rfl) rfl)) ?_
      refine rg_put (d := 24) (v := .d (.mp (setQ (kn t)))) rfl (og rfl (op_move rfl rfl rfl)) ?_
      refine rg_put (d := 25) (v := .d (.fl (.int .i64 ((tk (kn t) (ix l k)))))) rfl (og rfl (op_call rfl Try.func16 nm16 rfl (.cons rfl (.d _) (.cons rfl (.d _) .nil)) (tk_c (ix l k) (kn t)) rfl)) ?_
      refine rg_put (d := 8) (v := .d (.fl (.int .i64 ((tk (kn t) (ix l k)))))) rfl (og rfl (op_assign rfl rfl rfl)) ?_
      refine rg_done rfl ?_
      refine a_rseq ?_
      refine rg_put (d := 26) (v := .d (.fl (.int .i64 ((tk (kn t) (ix l k)))))) rfl (og rfl (op_move rfl rfl rfl)) ?_
      refine rg_put (d := 27) (v := .d (.fl (.bool (((tk (kn t) (ix l k)) != 0))))) rfl (og rfl (op_bin rfl rfl rfl (b_neq _ _ _ _) rfl)) ?_
      refine rg_done rfl ?_
      refine a_cond rfl (fun h6 => ?_) (fun h6 => ?_)
      · skip
        have h7 := t_bne h6
        refine a_rseq ?_
        refine rg_put (d := 28) (v := .d (.fl (.int .i64 ((tk (kn t) (ix l k)))))) rfl (og rfl (op_move rfl rfl rfl)) ?_
        refine rg_put (d := 4) (v := .d (.fl (.int .i64 ((tk (kn t) (ix l k)))))) rfl (og rfl (op_assign rfl rfl rfl)) ?_
        refine rg_done rfl ?_
        refine a_ret ?_
        show ∃ ds, ResL _ _ _ ds ∧ RV.of ds = _
        refine ⟨[.fl (.int .i64 ((tk (kn t) (ix l k))))], (.cons (.tmp rfl (.d _)) .nil), ?_⟩
        rw [al_e h1, show alE (kn t) l = (tk (kn t) (ix l k)) from (fe_yes (by omega) hc (al_tk h6) (t_bne h6))]; rfl
      · skip
        have h8 := f_bne h6
        refine a_skip ?_
        show A _ _ _ _ _ _ _
        refine a_rseq ?_
        refine rg_put (d := 29) (v := .d (.sl 4 (List.map eTa l))) rfl (og rfl (op_move rfl rfl rfl)) ?_
        refine rg_put (d := 30) (v := .d (.fl (.int .i64 (k : Int)))) rfl (og rfl (op_move rfl rfl rfl)) ?_
        refine rg_put (d := 31) (v := .d (.sl 4 (List.map eTa (((l.drop 0).take (k - 0)))))) rfl (og rfl (s_slice rfl Try.underlying42 ti27 rfl (.no _) (.so (n := k) _ rfl (by omega)) (by omega) (by omega) rfl)) ?_
        refine rg_put (d := 32) (v := .d (.fl (.int .i64 (((((l.drop 0).take (k - 0))).length : Int))))) rfl (og rfl (s_len rfl Try.underlying42 rfl rfl)) ?_
        refine rg_put (d := 33) (v := .d (.fl (.int .i64 0))) rfl (og rfl (op_move rfl rfl rfl)) ?_
        rw [show ((l.drop 0).take (k - 0)) = (l.take k) from (by rw [List.drop_zero, Nat.sub_zero])]
        have hlt : (l.take k).length = k := by rw [List.length_take]; omega
        refine rg_done rfl ?_
        refine a_block ?_
        refine a_loop (ι := Nat) (fun j => SS [(0, .d (.sl 4 (List.map eTa l))), (1, .d (.ag (eTpg t))), (3, .pt 101 0), (5, .d (.mp (setQ (kn t)))), (6, .d (.fl (.int .i64 (k : Int)))), (7, .pt 102 0), (8, .d (.fl (.int .i64 ((tk (kn t) (ix l k)))))), (13, .d (.fl (.bool ((decide (1024 < (l.length : Int))))))), (16, .d (.sl 4 (List.map eTa l))), (17, .d (.fl (.int .i64 (l.length : Int)))), (18, .d (.fl (.int .i64 (k : Int)))), (19, .d (.fl (.bool ((decide ((k : Int) < (l.length : Int))))))), (27, .d (.fl (.bool (((tk (kn t) (ix l k)) != 0))))), (31, .d (.sl 4 (List.map eTa (l.take k)))), (32, .d (.fl (.int .i64 ((((l.take k)).length : Int))))), (33, .d (.fl (.int .i64 (j : Int))))] [(101, .bx 34 (eTpg t)), (102, .bx 27 ((eTa (ix l k))))]) (fun j => j ≤ k ∧ ∀ q, q < j → (ov (ix l k).val (ix l q).val) = false) (fun j => k - j) 0 (⟨by omega, fun q h => by omega⟩) (imp_forget rfl ⟨rfl, rfl, rfl, rfl, rfl, rfl, rfl, rfl, rfl, rfl, rfl, rfl, rfl, rfl, rfl, (by first | rfl | exact ci (by omega) | exact ci (by simp) | exact cd (by simp) | simp), trivial⟩ ⟨rfl, rfl, trivial⟩) (fun j hok => ?_)
        obtain ⟨hj, hq⟩ := hok
        refine a_rseq ?_
        refine rg_put (d := 34) (v := .d (.fl (.bool ((decide ((j : Int) < (((l.take k)).length : Int))))))) rfl (og rfl (op_bin rfl rfl rfl (b_lss _ _ _ _) rfl)) ?_
        refine rg_done rfl ?_
        refine a_seq ?_
        refine a_cond rfl (fun h9 => ?_) (fun h9 => ?_)
        · skip
          have h10 := t_dec h9
          refine a_skip ?_
          show A _ _ _ _ _ _ _
          refine a_seq ?_
          refine a_block ?_
          refine a_rseq ?_
          refine rg_put (d := 35) (v := .el ((eTa ((ix (l.take k) j))))) rfl (og rfl (s_index rfl Try.underlying42 ti27 rfl rfl (by omega) (row_at (by omega)) rfl)) ?_
          refine rg_put (d := 36) (v := .d (.ag (eTa (((ix (l.take k) j)))))) rfl (og rfl (of_eff (s_load_els rfl Try.underlying27 rfl ti27 rfl rfl rfl) rfl)) ?_
          refine rg_nam (d := 10) (v := .pt 103 0) (m := 103) (nw := [(103, .bx 27 [.fl (.int .i64 0), .fl (.int .i64 0), .fl (.slice none 0 0), .fl (.slice none 0 0)])]) rfl (og rfl (of_eff (s_alloc 103 rfl ti27 (by kernel_rfl) rfl) rfl)) rfl ?_
          refine rg_sto (nw := [(103, .bx 27 ((eTa (((ix (l.take k) j))))))]) rfl (og rfl (of_eff (s_store rfl rfl ti27 rfl rfl rfl rfl rfl rfl) rfl)) ?_
          rw [show (ix (l.take k) j) = (ix l j) from (take_ix' (by omega))]
          refine rg_done rfl ?_
          refine a_rseq ?_
          refine rg_put (d := 37) (v := .pt 102 0) rfl (og rfl (of_eff (s_field_pt rfl Try.underlying27 rfl ti23 rfl rfl rfl) rfl)) ?_
          refine rg_put (d := 38) (v := .pt 102 0) rfl (og rfl (of_eff (s_field_pt rfl Try.underlying23 rfl ti3 rfl rfl rfl) rfl)) ?_
          refine rg_put (d := 39) (v := .d (.fl (.int .i64 (((ix l k).val).fr)))) rfl (og rfl (op_load_pt rfl Try.underlying3 rfl rfl rfl rfl rfl)) ?_
          refine rg_put (d := 40) (v := .pt 103 0) rfl (og rfl (of_eff (s_field_pt rfl Try.underlying27 rfl ti23 rfl rfl rfl) rfl)) ?_
          refine rg_put (d := 41) (v := .pt 103 0) rfl (og rfl (of_eff (s_field_pt rfl Try.underlying23 rfl ti3 rfl rfl rfl) rfl)) ?_
          refine rg_put (d := 42) (v := .d (.fl (.int .i64 (((((ix l j))).val).fr)))) rfl (og rfl (op_load_pt rfl Try.underlying3 rfl rfl rfl rfl rfl)) ?_
          refine rg_put (d := 43) (v := .d (.fl (.int .i64 ((max (((ix l k).val).fr) (((((ix l j))).val).fr)))))) rfl (og rfl (op_max rfl rfl rfl rfl)) ?_
          refine rg_put (d := 44) (v := .pt 102 0) rfl (og rfl (of_eff (s_field_pt rfl Try.underlying27 rfl ti23 rfl rfl rfl) rfl)) ?_
          refine rg_put (d := 45) (v := .pt 102 1) rfl (og rfl (of_eff (s_field_pt rfl Try.underlying23 rfl ti3 rfl rfl rfl) rfl)) ?_
          refine rg_put (d := 46) (v := .d (.fl (.int .i64 (((ix l k).val).to)))) rfl (og rfl (op_load_pt rfl Try.underlying3 rfl rfl rfl rfl rfl)) ?_
          refine rg_put (d := 47) (v := .pt 103 0) rfl (og rfl (of_eff (s_field_pt rfl Try.underlying27 rfl ti23 rfl rfl rfl) rfl)) ?_
          refine rg_put (d := 48) (v := .pt 103 1) rfl (og rfl (of_eff (s_field_pt rfl Try.underlying23 rfl ti3 rfl rfl rfl) rfl)) ?_
          refine rg_put (d := 49) (v := .d (.fl (.int .i64 (((((ix l j))).val).to)))) rfl (og rfl (op_load_pt rfl Try.underlying3 rfl rfl rfl rfl rfl)) ?_
          refine rg_put (d := 50) (v := .d (.fl (.int .i64 ((min (((ix l k).val).to) (((((ix l j))).val).to)))))) rfl (og rfl (op_min rfl rfl rfl rfl)) ?_
          refine rg_put (d := 51) (v := .d (.fl (.bool ((decide ((max (((ix l k).val).fr) (((((ix l j))).val).fr)) < (min (((ix l k).val).to) (((((ix l j))).val).to)))))))) rfl (og rfl (op_bin rfl rfl rfl (b_lss _ _ _ _) rfl)) ?_
          refine rg_done rfl ?_
          refine a_cond rfl (fun h11 => ?_) (fun h11 => ?_)
          · skip
            have h12 := t_dec h11
            refine a_rseq ?_
            refine rg_put (d := 4) (v := .d (.fl (.int .i64 12))) rfl (og rfl (op_assign rfl rfl rfl)) ?_
            refine rg_done rfl ?_
            refine a_ret ?_
            show ∃ ds, ResL _ _ _ ds ∧ RV.of ds = _
            refine ⟨[.fl (.int .i64 12)], (.cons (.tmp rfl (.d _)) .nil), ?_⟩
            have hov : (ov (ix l k).val (ix l j).val) = true := h11
            rw [al_e h1, show alE (kn t) l = 12 from (fe_yes (by omega) hc (al_ov h6 (ovl_yes (by omega) (by omega) hov)) (by decide))]; rfl
          · skip
            have h13 := f_dec h11
            refine a_skip ?_
            show A _ _ _ _ _ _ _
            refine a_region ?_
            refine rg_put (d := 52) (v := .d (.fl (.int .i64 (((j : Int) + 1))))) rfl (og rfl (op_bin rfl rfl rfl (fun x y w => b_add64 _ _ _ x y w (by omega)) rfl)) ?_
            refine rg_put (d := 33) (v := .d (.fl (.int .i64 (((j : Int) + 1))))) rfl (og rfl (op_move rfl rfl rfl)) ?_
            refine rg_done rfl ?_
            have hx : (ov (ix l k).val (ix l j).val) = false := h11
            show ∃ i, _ ∧ _ ∧ Imp _ _ _ _ _
            refine ⟨j + 1, ⟨by omega, fun q h => (Nat.lt_succ_iff_lt_or_eq.1 h).elim (hq q) (fun e => by rw [e]; exact hx)⟩, by omega, imp_forget rfl ⟨rfl, rfl, rfl, rfl, rfl, rfl, rfl, rfl, rfl, rfl, rfl, rfl, rfl, rfl, rfl, (by first | rfl | exact ci (by omega) | exact ci (by simp) | exact cd (by simp) | simp), trivial⟩ ⟨rfl, rfl, trivial⟩⟩
        · skip
          have h14 := f_dec h9
          refine a_exit ?_
          show A _ _ _ _ _ _ _
          refine a_region ?_
          refine rg_put (d := 53) (v := .d (.fl (.int .i64 (((k : Int) + 1))))) rfl (og rfl (op_bin rfl rfl rfl (fun x y w => b_add64 _ _ _ x y w (by omega)) rfl)) ?_
          refine rg_put (d := 18) (v := .d (.fl (.int .i64 (((k : Int) + 1))))) rfl (og rfl (op_move rfl rfl rfl)) ?_
          refine rg_done rfl ?_
          have hb : al1 (kn t) l k = 0 := al_0 h6 (ovl_no (by omega) (fun q h => hq q (by omega)))
          show ∃ i, _ ∧ _ ∧ Imp _ _ _ _ _
          refine ⟨k + 1, ⟨by omega, fe_no (by omega) hc hb, fun q h => (Nat.lt_succ_iff_lt_or_eq.1 h).elim (hz q) (fun e => by rw [e]; exact hb)⟩, by omega, imp_forget rfl ⟨rfl, rfl, rfl, rfl, rfl, rfl, rfl, (by first | rfl | exact ci (by omega) | exact ci (by simp) | exact cd (by simp) | simp), trivial⟩ ⟨rfl, trivial⟩⟩
    · skip
      have h15 := f_dec h4
      refine a_exit ?_
      show A _ _ _ _ _ _ _
      refine a_rseq ?_
      refine rg_put (d := 4) (v := .d (.fl (.int .i64 0))) rfl (og rfl (op_assign rfl rfl rfl)) ?_
      refine rg_done rfl ?_
      refine a_ret ?_
      show ∃ ds, ResL _ _ _ ds ∧ RV.of ds = _
      refine ⟨[.fl (.int .i64 0)], (.cons (.tmp rfl (.d _)) .nil), ?_⟩
      rw [al_e h1, show alE (kn t) l = 0 from by rw [fe_end (by omega)] at hc; exact hc]; rfl
set_option maxHeartbeats 4000000 in
set_option maxRecDepth 100000 in
theorem small_c (t : Tpg) : Ctr Try.prog 7 [.ag (eTpg t)] (.d (.fl (.bool (smlT t)))) := by
  refine ctr (n := 21) (rs := #[.tmp 2]) (L := [(0, .d (.ag (eTpg t)))]) Try.func7 rfl rfl rfl rfl rfl (fun w0 U0 => ?_)
  refine a_rseq ?_
  refine rg_nam (d := 1) (v := .pt 101 0) (m := 101) (nw := [(101, .bx 34 (eTpg t))]) rfl (og rfl (of_eff (op_box 101 rfl rfl rfl rfl) rfl)) rfl ?_
  refine rg_put (d := 2) (v := .d (.fl (.bool false))) rfl (og rfl (op_assign rfl rfl rfl)) ?_
  refine rg_done rfl ?_
  refine a_rseq ?_
  refine rg_put (d := 3) (v := .pt 101 0) rfl (og rfl (of_eff (s_field_pt rfl Try.underlying34 rfl ti31 rfl rfl rfl) rfl)) ?_
  refine rg_put (d := 4) (v := .pt 101 0) rfl (og rfl (of_eff (s_field_pt rfl Try.underlying31 rfl ti28 rfl rfl rfl) rfl)) ?_
  refine rg_put (d := 5) (v := .d (.sl 3 (List.map ePnt t.net.pts))) rfl (og rfl (op_load_pt rfl Try.underlying28 rfl rfl rfl rfl rfl)) ?_
  refine rg_put (d := 6) (v := .d (.fl (.int .i64 (t.net.pts.length : Int)))) rfl (og rfl (s_len rfl Try.underlying28 rfl rfl)) ?_
  refine rg_put (d := 7) (v := .d (.fl (.bool ((decide ((t.net.pts.length : Int) ≤ 12)))))) rfl (og rfl (op_bin rfl rfl rfl (b_leq _ _ _ _) rfl)) ?_
  refine rg_put (d := 8) (v := .d (.fl (.bool ((decide ((t.net.pts.length : Int) ≤ 12)))))) rfl (og rfl (op_move rfl rfl rfl)) ?_
  rcases fot ((decide ((t.net.pts.length : Int) ≤ 12))) with h1 | h1
  · skip
    have h2 := f_dec h1
    refine rg_put (d := 9) (v := .d (.fl undef)) rfl (on rfl rfl rfl h1) ?_
    refine rg_put (d := 10) (v := .d (.fl undef)) rfl (on rfl rfl rfl h1) ?_
    refine rg_put (d := 11) (v := .d (.fl undef)) rfl (on rfl rfl rfl h1) ?_
    refine rg_put (d := 12) (v := .d (.fl undef)) rfl (on rfl rfl rfl h1) ?_
    refine rg_put (d := 13) (v := .d (.fl undef)) rfl (on rfl rfl rfl h1) ?_
    refine rg_put (d := 14) (v := .d (.fl (.bool false))) rfl (og rfl (op_pick rfl rfl (by rw [h1]; rfl) rfl)) ?_
    refine rg_put (d := 15) (v := .d (.fl (.bool false))) rfl (og rfl (op_move rfl rfl rfl)) ?_
    refine rg_put (d := 16) (v := .d (.fl undef)) rfl (on rfl rfl rfl rfl) ?_
    refine rg_put (d := 17) (v := .d (.fl undef)) rfl (on rfl rfl rfl rfl) ?_
    refine rg_put (d := 18) (v := .d (.fl undef)) rfl (on rfl rfl rfl rfl) ?_
    refine rg_put (d := 19) (v := .d (.fl undef)) rfl (on rfl rfl rfl rfl) ?_
    refine rg_put (d := 20) (v := .d (.fl (.bool false))) rfl (og rfl (op_pick rfl rfl rfl rfl)) ?_
    refine rg_put (d := 2) (v := .d (.fl (.bool false))) rfl (og rfl (op_assign rfl rfl rfl)) ?_
    refine rg_done rfl ?_
    refine a_ret ?_
    show ∃ ds, ResL _ _ _ ds ∧ RV.of ds = _
    refine ⟨[.fl (.bool false)], (.cons (.tmp rfl (.d _)) .nil), ?_⟩
    first
      | (have hu : smlT t = false := by
          unfold smlT; simp only [h1, Bool.true_or, Bool.false_or, Bool.or_true, Bool.or_false, Bool.not_true, Bool.not_false, cond_true, cond_false, Bool.true_and, Bool.false_and, Bool.and_true, Bool.and_false] <;> rfl
         rw [hu]; rfl)
      | (exfalso; omega)
  · skip
    have h3 := t_dec h1
    refine rg_put (d := 9) (v := .pt 101 0) rfl (oy rfl rfl rfl h1 (of_eff (s_field_pt rfl Try.underlying34 rfl ti31 rfl rfl rfl) rfl)) ?_
    refine rg_put (d := 10) (v := .pt 101 1) rfl (oy rfl rfl rfl h1 (of_eff (s_field_pt rfl Try.underlying31 rfl ti29 rfl rfl rfl) rfl)) ?_
    refine rg_put (d := 11) (v := .d (.sl 4 (List.map eLnk t.net.lks))) rfl (oy rfl rfl rfl h1 (op_load_pt rfl Try.underlying29 rfl rfl rfl rfl rfl)) ?_
    refine rg_put (d := 12) (v := .d (.fl (.int .i64 (t.net.lks.length : Int)))) rfl (oy rfl rfl rfl h1 (s_len rfl Try.underlying29 rfl rfl)) ?_
    refine rg_put (d := 13) (v := .d (.fl (.bool ((decide ((t.net.lks.length : Int) ≤ 30)))))) rfl (oy rfl rfl rfl h1 (op_bin rfl rfl rfl (b_leq _ _ _ _) rfl)) ?_
    refine rg_put (d := 14) (v := .d (.fl (.bool ((decide ((t.net.lks.length : Int) ≤ 30)))))) rfl (og rfl (op_pick rfl rfl (by rw [h1]; rfl) rfl)) ?_
    refine rg_put (d := 15) (v := .d (.fl (.bool ((decide ((t.net.lks.length : Int) ≤ 30)))))) rfl (og rfl (op_move rfl rfl rfl)) ?_
    rcases fot ((decide ((t.net.lks.length : Int) ≤ 30))) with h4 | h4
    · skip
      have h5 := f_dec h4
      refine rg_put (d := 16) (v := .d (.fl undef)) rfl (on rfl rfl rfl h4) ?_
      refine rg_put (d := 17) (v := .d (.fl undef)) rfl (on rfl rfl rfl h4) ?_
      refine rg_put (d := 18) (v := .d (.fl undef)) rfl (on rfl rfl rfl h4) ?_
      refine rg_put (d := 19) (v := .d (.fl undef)) rfl (on rfl rfl rfl h4) ?_
      refine rg_put (d := 20) (v := .d (.fl (.bool false))) rfl (og rfl (op_pick rfl rfl (by rw [h4]; rfl) rfl)) ?_
      refine rg_put (d := 2) (v := .d (.fl (.bool false))) rfl (og rfl (op_assign rfl rfl rfl)) ?_
      refine rg_done rfl ?_
      refine a_ret ?_
      show ∃ ds, ResL _ _ _ ds ∧ RV.of ds = _
      refine ⟨[.fl (.bool false)], (.cons (.tmp rfl (.d _)) .nil), ?_⟩
      first
        | (have hu : smlT t = false := by
            unfold smlT; simp only [h1, h4, Bool.true_or, Bool.false_or, Bool.or_true, Bool.or_false, Bool.not_true, Bool.not_false, cond_true, cond_false, Bool.true_and, Bool.false_and, Bool.and_true, Bool.and_false] <;> rfl
           rw [hu]; rfl)
        | (exfalso; omega)
    · skip
      have h6 := t_dec h4
      refine rg_put (d := 16) (v := .pt 101 2) rfl (oy rfl rfl rfl h4 (of_eff (s_field_pt rfl Try.underlying34 rfl ti32 rfl rfl rfl) rfl)) ?_
      refine rg_put (d := 17) (v := .d (.sl 3 (List.map eSys t.syss))) rfl (oy rfl rfl rfl h4 (op_load_pt rfl Try.underlying32 rfl rfl rfl rfl rfl)) ?_
      refine rg_put (d := 18) (v := .d (.fl (.int .i64 (t.syss.length : Int)))) rfl (oy rfl rfl rfl h4 (s_len rfl Try.underlying32 rfl rfl)) ?_
      refine rg_put (d := 19) (v := .d (.fl (.bool ((decide ((t.syss.length : Int) ≤ 100)))))) rfl (oy rfl rfl rfl h4 (op_bin rfl rfl rfl (b_leq _ _ _ _) rfl)) ?_
      refine rg_put (d := 20) (v := .d (.fl (.bool ((decide ((t.syss.length : Int) ≤ 100)))))) rfl (og rfl (op_pick rfl rfl (by rw [h4]; rfl) rfl)) ?_
      refine rg_put (d := 2) (v := .d (.fl (.bool ((decide ((t.syss.length : Int) ≤ 100)))))) rfl (og rfl (op_assign rfl rfl rfl)) ?_
      refine rg_done rfl ?_
      refine a_ret ?_
      show ∃ ds, ResL _ _ _ ds ∧ RV.of ds = _
      refine ⟨[.fl (.bool ((decide ((t.syss.length : Int) ≤ 100))))], (.cons (.tmp rfl (.d _)) .nil), ?_⟩
      first
        | (have hu : smlT t = (decide ((t.syss.length : Int) ≤ 100)) := by
            unfold smlT; simp only [h1, h4, Bool.true_or, Bool.false_or, Bool.or_true, Bool.or_false, Bool.not_true, Bool.not_false, cond_true, cond_false, Bool.true_and, Bool.false_and, Bool.and_true, Bool.and_false] <;> rfl
           rw [hu]; rfl)
        | (exfalso; omega)
set_option maxHeartbeats 4000000 in
set_option maxRecDepth 100000 in
theorem short_c (x : Ta) : Ctr Try.prog 6 [.ag (eTa x)] (.d (.fl (.bool (shortB x)))) := by
  refine ctr (n := 13) (rs := #[.tmp 2]) (L := [(0, .d (.ag (eTa x)))]) Try.func6 rfl rfl rfl rfl rfl (fun w0 U0 => ?_)
  refine a_rseq ?_
  refine rg_nam (d := 1) (v := .pt 101 0) (m := 101) (nw := [(101, .bx 27 (eTa x))]) rfl (og rfl (of_eff (op_box 101 rfl rfl rfl rfl) rfl)) rfl ?_
  refine rg_put (d := 2) (v := .d (.fl (.bool false))) rfl (og rfl (op_assign rfl rfl rfl)) ?_
  refine rg_done rfl ?_
  refine a_rseq ?_
  refine rg_put (d := 3) (v := .pt 101 2) rfl (og rfl (of_eff (s_field_pt rfl Try.underlying27 rfl ti24 rfl rfl rfl) rfl)) ?_
  refine rg_put (d := 4) (v := .d (.sl 4 (List.map eBd x.bands))) rfl (og rfl (op_load_pt rfl Try.underlying24 rfl rfl rfl rfl rfl)) ?_
  refine rg_put (d := 5) (v := .d (.fl (.int .i64 (x.bands.length : Int)))) rfl (og rfl (s_len rfl Try.underlying24 rfl rfl)) ?_
  refine rg_put (d := 6) (v := .d (.fl (.bool ((decide ((x.bands.length : Int) ≤ 40)))))) rfl (og rfl (op_bin rfl rfl rfl (b_leq _ _ _ _) rfl)) ?_
  refine rg_put (d := 7) (v := .d (.fl (.bool ((decide ((x.bands.length : Int) ≤ 40)))))) rfl (og rfl (op_move rfl rfl rfl)) ?_
  rcases fot ((decide ((x.bands.length : Int) ≤ 40))) with h1 | h1
  · skip
    have h2 := f_dec h1
    refine rg_put (d := 8) (v := .d (.fl undef)) rfl (on rfl rfl rfl h1) ?_
    refine rg_put (d := 9) (v := .d (.fl undef)) rfl (on rfl rfl rfl h1) ?_
    refine rg_put (d := 10) (v := .d (.fl undef)) rfl (on rfl rfl rfl h1) ?_
    refine rg_put (d := 11) (v := .d (.fl undef)) rfl (on rfl rfl rfl h1) ?_
    refine rg_put (d := 12) (v := .d (.fl (.bool false))) rfl (og rfl (op_pick rfl rfl (by rw [h1]; rfl) rfl)) ?_
    refine rg_put (d := 2) (v := .d (.fl (.bool false))) rfl (og rfl (op_assign rfl rfl rfl)) ?_
    refine rg_done rfl ?_
    refine a_ret ?_
    show ∃ ds, ResL _ _ _ ds ∧ RV.of ds = _
    refine ⟨[.fl (.bool false)], (.cons (.tmp rfl (.d _)) .nil), ?_⟩
    first
      | (have hu : shortB x = false := by
          unfold shortB; simp only [h1, Bool.true_or, Bool.false_or, Bool.or_true, Bool.or_false, Bool.not_true, Bool.not_false, cond_true, cond_false, Bool.true_and, Bool.false_and, Bool.and_true, Bool.and_false] <;> rfl
         rw [hu]; rfl)
      | (exfalso; omega)
  · skip
    have h3 := t_dec h1
    refine rg_put (d := 8) (v := .pt 101 3) rfl (oy rfl rfl rfl h1 (of_eff (s_field_pt rfl Try.underlying27 rfl ti25 rfl rfl rfl) rfl)) ?_
    refine rg_put (d := 9) (v := .d (.sl 5 (List.map eRt x.rates))) rfl (oy rfl rfl rfl h1 (op_load_pt rfl Try.underlying25 rfl rfl rfl rfl rfl)) ?_
    refine rg_put (d := 10) (v := .d (.fl (.int .i64 (x.rates.length : Int)))) rfl (oy rfl rfl rfl h1 (s_len rfl Try.underlying25 rfl rfl)) ?_
    refine rg_put (d := 11) (v := .d (.fl (.bool ((decide ((x.rates.length : Int) ≤ 60)))))) rfl (oy rfl rfl rfl h1 (op_bin rfl rfl rfl (b_leq _ _ _ _) rfl)) ?_
    refine rg_put (d := 12) (v := .d (.fl (.bool ((decide ((x.rates.length : Int) ≤ 60)))))) rfl (og rfl (op_pick rfl rfl (by rw [h1]; rfl) rfl)) ?_
    refine rg_put (d := 2) (v := .d (.fl (.bool ((decide ((x.rates.length : Int) ≤ 60)))))) rfl (og rfl (op_assign rfl rfl rfl)) ?_
    refine rg_done rfl ?_
    refine a_ret ?_
    show ∃ ds, ResL _ _ _ ds ∧ RV.of ds = _
    refine ⟨[.fl (.bool ((decide ((x.rates.length : Int) ≤ 60))))], (.cons (.tmp rfl (.d _)) .nil), ?_⟩
    first
      | (have hu : shortB x = (decide ((x.rates.length : Int) ≤ 60)) := by
          unfold shortB; simp only [h1, Bool.true_or, Bool.false_or, Bool.or_true, Bool.or_false, Bool.not_true, Bool.not_false, cond_true, cond_false, Bool.true_and, Bool.false_and, Bool.and_true, Bool.and_false] <;> rfl
         rw [hu]; rfl)
      | (exfalso; omega)
set_option maxHeartbeats 4000000 in
set_option maxRecDepth 100000 in
theorem few_c (l : List Ta) : Ctr Try.prog 11 [.sl 4 (List.map eTa l)] (.d (.fl (.bool (fewB l)))) := by
  refine ctr (n := 19) (rs := #[.tmp 2]) (L := [(0, .d (.sl 4 (List.map eTa l)))]) Try.func11 rfl rfl rfl rfl rfl (fun w0 U0 => ?_)
  refine a_rseq ?_
  refine rg_put (d := 2) (v := .d (.fl (.bool false))) rfl (og rfl (op_assign rfl rfl rfl)) ?_
  refine rg_done rfl ?_
  refine a_seq ?_
  refine a_rseq ?_
  refine rg_put (d := 4) (v := .d (.sl 4 (List.map eTa l))) rfl (og rfl (op_move rfl rfl rfl)) ?_
  refine rg_put (d := 5) (v := .d (.fl (.int .i64 (l.length : Int)))) rfl (og rfl (s_len rfl Try.underlying42 rfl rfl)) ?_
  refine rg_put (d := 6) (v := .d (.fl (.bool ((decide (12 < (l.length : Int))))))) rfl (og rfl (op_bin rfl rfl rfl (b_gtr _ _ _ _) rfl)) ?_
  refine rg_done rfl ?_
  refine a_cond rfl (fun h1 => ?_) (fun h1 => ?_)
  · skip
    have h2 := t_dec h1
    refine a_rseq ?_
    refine rg_put (d := 2) (v := .d (.fl (.bool false))) rfl (og rfl (op_assign rfl rfl rfl)) ?_
    refine rg_done rfl ?_
    refine a_ret ?_
    show ∃ ds, ResL _ _ _ ds ∧ RV.of ds = _
    refine ⟨[.fl (.bool false)], (.cons (.tmp rfl (.d _)) .nil), ?_⟩
    rw [few_lim h1]; rfl
  · skip
    have h3 := f_dec h1
    refine a_skip ?_
    show A _ _ _ _ _ _ _
    refine a_seq ?_
    refine a_rseq ?_
    refine rg_put (d := 3) (v := .d (.fl (.int .i64 0))) rfl (og rfl (op_assign rfl rfl rfl)) ?_
    refine rg_done rfl ?_
    refine a_block ?_
    refine a_loop (ι := Nat) (fun k => SS [(0, .d (.sl 4 (List.map eTa l))), (6, .d (.fl (.bool ((decide (12 < (l.length : Int))))))), (3, .d (.fl (.int .i64 (k : Int))))] []) (fun k => k ≤ l.length ∧ ∀ q, q < k → (shortB (ix l q)) = true) (fun k => l.length - k) 0 (⟨by omega, fun q h => by omega⟩) (imp_forget rfl ⟨rfl, rfl, (by first | rfl | exact ci (by omega) | exact ci (by simp) | exact cd (by simp) | simp), trivial⟩ trivial) (fun k hok => ?_)
    obtain ⟨hkk, hq⟩ := hok
    refine a_seq ?_
    refine a_rseq ?_
    refine rg_put (d := 7) (v := .d (.fl (.int .i64 (k : Int)))) rfl (og rfl (op_move rfl rfl rfl)) ?_
    refine rg_put (d := 8) (v := .d (.sl 4 (List.map eTa l))) rfl (og rfl (op_move rfl rfl rfl)) ?_
    refine rg_put (d := 9) (v := .d (.fl (.int .i64 (l.length : Int)))) rfl (og rfl (s_len rfl Try.underlying42 rfl rfl)) ?_
    refine rg_put (d := 10) (v := .d (.fl (.bool ((decide ((k : Int) < (l.length : Int))))))) rfl (og rfl (op_bin rfl rfl rfl (b_lss _ _ _ _) rfl)) ?_
    refine rg_done rfl ?_
    refine a_cond rfl (fun h4 => ?_) (fun h4 => ?_)
    · skip
      have h5 := t_dec h4
      refine a_skip ?_
      show A _ _ _ _ _ _ _
      refine a_seq ?_
      refine a_block ?_
      refine a_rseq ?_
      refine rg_put (d := 13) (v := .d (.sl 4 (List.map eTa l))) rfl (og rfl (op_move rfl rfl rfl)) ?_
      refine rg_put (d := 14) (v := .d (.fl (.int .i64 (k : Int)))) rfl (og rfl (op_move rfl rfl rfl)) ?_
      refine rg_put (d := 15) (v := .el ((eTa (ix l k)))) rfl (og rfl (s_index rfl Try.underlying42 ti27 rfl rfl (by omega) (row_at (by omega)) rfl)) ?_
      refine rg_put (d := 16) (v := .d (.ag (eTa (ix l k)))) rfl (og rfl (of_eff (s_load_els rfl Try.underlying27 rfl ti27 rfl rfl rfl) rfl)) ?_
      refine rg_put (d := 17) (v := .d (.fl (.bool ((shortB (ix l k)))))) rfl (og rfl (op_call rfl Try.func6 nm6 rfl (.cons rfl (.d _) .nil) (short_c (ix l k)) rfl)) ?_
      refine rg_put (d := 18) (v := .d (.fl (.bool ((!((shortB (ix l k)))))))) rfl (og rfl (op_un rfl rfl (u_not _) rfl)) ?_
      refine rg_done rfl ?_
      refine a_cond rfl (fun h6 => ?_) (fun h6 => ?_)
      · skip
        have h7 := t_not h6
        refine a_rseq ?_
        refine rg_put (d := 2) (v := .d (.fl (.bool false))) rfl (og rfl (op_assign rfl rfl rfl)) ?_
        refine rg_done rfl ?_
        refine a_ret ?_
        show ∃ ds, ResL _ _ _ ds ∧ RV.of ds = _
        refine ⟨[.fl (.bool false)], (.cons (.tmp rfl (.d _)) .nil), ?_⟩
        rw [few_no (by omega) h7]; rfl
      · skip
        have h8 := f_not h6
        refine a_skip ?_
        show A _ _ _ _ _ _ _
        refine a_region ?_
        refine rg_put (d := 11) (v := .d (.fl (.int .i64 (k : Int)))) rfl (og rfl (op_move rfl rfl rfl)) ?_
        refine rg_put (d := 12) (v := .d (.fl (.int .i64 (((k : Int) + 1))))) rfl (og rfl (op_bin rfl rfl rfl (fun x y w => b_add64 _ _ _ x y w (by omega)) rfl)) ?_
        refine rg_put (d := 3) (v := .d (.fl (.int .i64 (((k : Int) + 1))))) rfl (og rfl (op_assign rfl rfl rfl)) ?_
        refine rg_done rfl ?_
        have hx : (shortB (ix l k)) = true := h8
        show ∃ i, _ ∧ _ ∧ Imp _ _ _ _ _
        refine ⟨k + 1, ⟨by omega, fun q h => (Nat.lt_succ_iff_lt_or_eq.1 h).elim (hq q) (fun e => by rw [e]; exact hx)⟩, by omega, imp_forget rfl ⟨rfl, rfl, (by first | rfl | exact ci (by omega) | exact ci (by simp) | exact cd (by simp) | simp), trivial⟩ trivial⟩
    · skip
      have h9 := f_dec h4
      refine a_exit ?_
      show A _ _ _ _ _ _ _
      refine a_rseq ?_
      refine rg_put (d := 2) (v := .d (.fl (.bool true))) rfl (og rfl (op_assign rfl rfl rfl)) ?_
      refine rg_done rfl ?_
      refine a_ret ?_
      show ∃ ds, ResL _ _ _ ds ∧ RV.of ds = _
      refine ⟨[.fl (.bool true)], (.cons (.tmp rfl (.d _)) .nil), ?_⟩
      rw [few_yes h1 (fun q h => hq q (by omega))]; rfl
end Go.Proofs.Ytlmihhecpaomjaa.Wk
