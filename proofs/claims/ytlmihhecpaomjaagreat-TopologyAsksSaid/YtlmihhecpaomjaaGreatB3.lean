/- Points, kinds and systems by the references. No condition. -/
import Derived.Test.YtlmihhecpaomjaaGreatB2
set_option linter.unusedSimpArgs false
set_option linter.unusedVariables false
namespace Go.Proofs.YtlmihhecpaomjaaGreat.Wk
open Go Go.RowKit Go.Proofs.YtlmihhecpaomjaaGreat.Av
noncomputable def vT (t : Tpg) : Tpg := if tck t = 0 then t else ⟨⟨[], []⟩, []⟩
noncomputable def vN (n : Nwk) : Nwk := if gck n = 0 then n else ⟨[], []⟩
theorem gck_e : gck ⟨[], []⟩ = 0 := by
  unfold gck ptE lkE; simp [fe]
theorem tck_gck {t : Tpg} (h : tck t = 0) : gck t.net = 0 := by
  by_cases hg : gck t.net = 0
  · exact hg
  · rw [tck_g (bne_iff_ne.2 hg)] at h; exact h
theorem vN_vT (t : Tpg) : vN (vT t).net = (vT t).net := by
  unfold vT vN
  split
  · rename_i h; rw [if_pos (tck_gck h)]
  · rw [if_pos gck_e]
theorem tck_s0 {t : Tpg} (h : tck t = 0) : t.syss.length ≤ 64 ∧ syE t.syss = 0 ∧ peE t = 0 := by
  have hg := tck_gck h
  have h1 : (gck t.net != 0) = false := by rw [hg]; rfl
  cases h2 : decide (64 < (t.syss.length : Int)) with
  | true => rw [tck_l h1 h2] at h; cases h
  | false =>
    by_cases h3 : syE t.syss = 0
    · rw [tck_p h1 h2 h3] at h
      simp only [decide_eq_false_iff_not] at h2
      exact ⟨by omega, h3, h⟩
    · rw [tck_s h1 h2 rfl h3] at h; exact absurd h h3
theorem pt_parts {l : List Pnt} {k : Nat} (h : pt1 l k = 0) : Nm.nmB (ix l k).name = true ∧ dupP (l.take k) (ix l k).name = false := by
  unfold pt1 at h
  cases h1 : Nm.nmB (ix l k).name with
  | false => rw [h1] at h; cases h
  | true =>
    cases h2 : dupP (l.take k) (ix l k).name with
    | true => rw [h1, h2] at h; cases h
    | false => exact ⟨rfl, rfl⟩
theorem sy_parts {l : List Sys} {k : Nat} (h : sy1 l k = 0) : Nm.nmB (ix l k).name = true ∧ (sF (l.take k) (ix l k).name).isSome = false := by
  unfold sy1 at h
  cases h1 : Nm.nmB (ix l k).name with
  | false => rw [h1] at h; cases h
  | true =>
    cases h2 : (sF (l.take k) (ix l k).name).isSome with
    | true => rw [h1, h2] at h; cases h
    | false => exact ⟨rfl, rfl⟩
theorem nm_ne {s : ByteArray} (h : Nm.nmB s = true) : sEq s ⟨#[]⟩ = false := by
  cases hs : sEq s ⟨#[]⟩ with
  | false => rfl
  | true =>
    have e := sEq_eq hs
    subst e
    have : Nm.nmB ⟨#[]⟩ = false := Nm.nmB_no (fun hn => absurd hn.1 (by decide))
    rw [this] at h; cases h
def pF (l : List Pnt) (s : ByteArray) : Option Pnt := l.find? fun x => sEq x.name s
def zP : Pnt := ⟨⟨#[]⟩, 0, ⟨#[]⟩⟩
def zS : Sys := ⟨⟨#[]⟩, false, 0⟩
theorem vT_gck (t : Tpg) : gck (vT t).net = 0 := by
  unfold vT
  split
  · rename_i h; exact tck_gck h
  · exact gck_e
theorem vT_tck (t : Tpg) (h : tck t = 0) : vT t = t := if_pos h
theorem tck_e : tck ⟨⟨[], []⟩, []⟩ = 0 := by
  rw [tck_p (by rw [show (⟨⟨[], []⟩, []⟩ : Tpg).net = ⟨[], []⟩ from rfl, gck_e]; rfl) rfl rfl]; rfl
theorem vT_ok (t : Tpg) : tck (vT t) = 0 := by
  unfold vT
  split
  · assumption
  · exact tck_e
theorem plc_cases {l : List Pnt} (s : ByteArray) (hl : l.length ≤ 64) : (plc l 64 s = -1 ∧ pF l s = none) ∨ ∃ i : Nat, plc l 64 s = (i : Int) ∧ i < l.length ∧ pF l s = some (ix l i) := by
  unfold plc pF
  rw [List.take_of_length_le hl]
  cases h : l.findIdx? (fun x => sEq x.name s) with
  | none =>
    refine .inl ⟨rfl, ?_⟩
    rw [List.findIdx?_eq_none_iff] at h
    exact List.find?_eq_none.2 (fun x hx => by rw [h x hx]; simp)
  | some i =>
    rw [List.findIdx?_eq_some_iff_getElem] at h
    obtain ⟨h1, h2, h3⟩ := h
    refine .inr ⟨i, rfl, h1, ?_⟩
    rw [List.find?_eq_some_iff_getElem]
    exact ⟨by rw [← ix_eq h1]; exact h2, i, h1, by rw [ix_eq], fun j hj => by have := h3 j hj; simpa using this⟩
def fN (l : List Pnt) (s : ByteArray) : Pnt × Bool := match pF l s with
  | some p => (p, true)
  | none => (zP, false)
def kd (l : List Pnt) (s : ByteArray) : Int := (fN l s).1.kind
def sy (l : List Pnt) (s : ByteArray) : ByteArray := (fN l s).1.sys
noncomputable def kn (t : Tpg) : List Pnt := (vT t).net.pts
noncomputable def sR (t : Tpg) (s : ByteArray) : Sys × Bool := match sF (vT t).syss (sy (kn t) s) with
  | some y => (y, true)
  | none => (zS, false)
theorem vT_len (t : Tpg) : (vT t).net.pts.length ≤ 64 := (gck_0 (vT_gck t)).1
theorem vT_sys (t : Tpg) : (vT t).syss.length ≤ 64 := (tck_s0 (vT_ok t)).1
theorem sF_e (t : Tpg) : sF (vT t).syss ⟨#[]⟩ = none := by
  have h := (tck_s0 (vT_ok t)).2.1
  unfold sF
  refine fnd_no (p := fun x : Sys => sEq x.name ⟨#[]⟩) (fun q hq => ?_)
  exact nm_ne (sy_parts (fe_zero h q (by omega) (by omega))).1
theorem pF_mem {l : List Pnt} {s : ByteArray} {p : Pnt} (h : pF l s = some p) : ∃ k, k < l.length ∧ ix l k = p ∧ sEq p.name s = true := by
  have h1 := List.find?_some h
  obtain ⟨k, hk, he⟩ := mem_ix (List.mem_of_find?_eq_some h)
  exact ⟨k, hk, he, h1⟩
theorem fIx_in {l : List Sys} {s : ByteArray} (h : (sF l s).isSome = true) : ∃ i : Nat, fIx l s = (i : Int) ∧ i < l.length ∧ sF l s = some (ix l i) := by
  rcases fIx_cases l s with ⟨_, h2⟩ | h2
  · rw [h2] at h; cases h
  · exact h2
theorem sys_in {t : Tpg} {s : ByteArray} {p : Pnt} (h : pF (vT t).net.pts s = some p) (hs : sEq p.sys ⟨#[]⟩ = false) : (sF (vT t).syss p.sys).isSome = true := by
  obtain ⟨k, hk, he, _⟩ := pF_mem h
  have h3 := fe_zero (tck_s0 (vT_ok t)).2.2 k (by omega) (by omega)
  unfold pe1 at h3
  rw [he] at h3
  cases h4 : okP p (sF (vT t).syss p.sys) with
  | false => rw [h4] at h3; cases h3
  | true =>
    cases h5 : sF (vT t).syss p.sys with
    | some y => rfl
    | none =>
      rw [h5] at h4
      unfold okP at h4
      rw [hs] at h4
      cases h6 : (p.kind == 4) <;> cases h7 : (p.kind == 1) <;> rw [h6, h7] at h4 <;> cases h4

set_option maxHeartbeats 4000000 in
set_option maxRecDepth 100000 in
theorem valid_t (t : Tpg) : Ctr Tryz.prog 16 [.ag (eTpg t)] (.d (.ag (eTpg (vT t)))) := by
  refine ctr (n := 8) (rs := #[.cell 2 28]) (L := [(0, .d (.ag (eTpg t)))]) Tryz.func16 rfl rfl rfl rfl rfl (fun w0 U0 => ?_)
  refine a_rseq ?_
  refine rg_nam (d := 1) (v := .pt 101 0) (m := 101) (nw := [(101, .bx 28 (eTpg t))]) rfl (og rfl (of_eff (op_box 101 rfl rfl rfl rfl) rfl)) rfl ?_
  refine rg_nam (d := 2) (v := .pt 102 0) (m := 102) (nw := [(102, .bx 28 [.fl (.slice none 0 0), .fl (.slice none 0 0), .fl (.slice none 0 0)])]) rfl (og rfl (of_eff (s_alloc 102 rfl ti28 (by kernel_rfl) rfl) rfl)) rfl ?_
  refine rg_done rfl ?_
  refine a_seq ?_
  refine a_rseq ?_
  refine rg_put (d := 3) (v := .d (.ag (eTpg t))) rfl (og rfl (of_eff (s_load_pts rfl Tryz.underlying28 rfl ti28 rfl rfl rfl rfl) rfl)) ?_
  refine rg_put (d := 4) (v := .d (.fl (.int .i64 (tck t)))) rfl (og rfl (op_call rfl Tryz.func31 nm31 rfl (.cons rfl (.d _) .nil) (tck_r t) rfl)) ?_
  refine rg_put (d := 5) (v := .d (.fl (.bool (((tck t) != 0))))) rfl (og rfl (op_bin rfl rfl rfl (b_neq _ _ _ _) rfl)) ?_
  refine rg_done rfl ?_
  refine a_cond rfl (fun h1 => ?_) (fun h1 => ?_)
  · skip
    have h2 := t_bne h1
    refine a_rseq ?_
    refine rg_put (d := 6) (v := .d (.ag [.fl (.slice none 0 0), .fl (.slice none 0 0), .fl (.slice none 0 0)])) rfl (og rfl (of_eff (op_build rfl Tryz.underlying28 ti28 rfl (by kernel_rfl) (by kernel_rfl) (pl := #[(0, 2), (2, 1)]) (by kernel_rfl) .nil rfl) rfl)) ?_
    refine rg_sto (nw := [(102, .bx 28 [.fl (.slice none 0 0), .fl (.slice none 0 0), .fl (.slice none 0 0)])]) rfl (og rfl (of_eff (s_store rfl rfl ti28 rfl rfl rfl rfl rfl rfl) rfl)) ?_
    refine rg_done rfl ?_
    refine a_ret ?_
    show ∃ ds, ResL _ _ _ ds ∧ RV.of ds = _
    refine ⟨[.ag [.sl 3 (List.map ePnt []), .sl 4 (List.map eLnk []), .sl 3 (List.map eSys [])]], (.cons (.cellT rfl rfl Tryz.underlying28 rfl ti28 rfl (Cv.ag (xs := [.fl (.slice none 0 0), .fl (.slice none 0 0), .fl (.slice none 0 0)]) (ys := [.sl 3 (List.map ePnt []), .sl 4 (List.map eLnk []), .sl 3 (List.map eSys [])]) ⟨Cv.nil _, Cv.nil _, Cv.nil _, trivial⟩)) .nil), ?_⟩
    rw [show vT t = _ from if_neg (t_bne h1)]; rfl
  · skip
    have h3 := f_bne h1
    refine a_skip ?_
    show A _ _ _ _ _ _ _
    refine a_rseq ?_
    refine rg_put (d := 7) (v := .d (.ag (eTpg t))) rfl (og rfl (of_eff (s_load_pts rfl Tryz.underlying28 rfl ti28 rfl rfl rfl rfl) rfl)) ?_
    refine rg_sto (nw := [(102, .bx 28 (eTpg t))]) rfl (og rfl (of_eff (s_store rfl rfl ti28 rfl rfl rfl rfl rfl rfl) rfl)) ?_
    refine rg_done rfl ?_
    refine a_ret ?_
    show ∃ ds, ResL _ _ _ ds ∧ RV.of ds = _
    refine ⟨[.ag [.sl 3 (List.map ePnt t.net.pts), .sl 4 (List.map eLnk t.net.lks), .sl 3 (List.map eSys t.syss)]], (.cons (.cellT rfl rfl Tryz.underlying28 rfl ti28 rfl (Cv.ag (xs := [.sl 3 (List.map ePnt t.net.pts), .sl 4 (List.map eLnk t.net.lks), .sl 3 (List.map eSys t.syss)]) (ys := [.sl 3 (List.map ePnt t.net.pts), .sl 4 (List.map eLnk t.net.lks), .sl 3 (List.map eSys t.syss)]) ⟨Cv.refl _, Cv.refl _, Cv.refl _, trivial⟩)) .nil), ?_⟩
    rw [show vT t = _ from if_pos (f_bne h1)]; rfl
set_option maxHeartbeats 4000000 in
set_option maxRecDepth 100000 in
theorem valid_n (n : Nwk) : Ctr Tryz.prog 32 [.ag (eNwk n)] (.d (.ag (eNwk (vN n)))) := by
  refine ctr (n := 8) (rs := #[.cell 2 25]) (L := [(0, .d (.ag (eNwk n)))]) Tryz.func32 rfl rfl rfl rfl rfl (fun w0 U0 => ?_)
  refine a_rseq ?_
  refine rg_nam (d := 1) (v := .pt 101 0) (m := 101) (nw := [(101, .bx 25 (eNwk n))]) rfl (og rfl (of_eff (op_box 101 rfl rfl rfl rfl) rfl)) rfl ?_
  refine rg_nam (d := 2) (v := .pt 102 0) (m := 102) (nw := [(102, .bx 25 [.fl (.slice none 0 0), .fl (.slice none 0 0)])]) rfl (og rfl (of_eff (s_alloc 102 rfl ti25 (by kernel_rfl) rfl) rfl)) rfl ?_
  refine rg_done rfl ?_
  refine a_seq ?_
  refine a_rseq ?_
  refine rg_put (d := 3) (v := .d (.ag (eNwk n))) rfl (og rfl (of_eff (s_load_pts rfl Tryz.underlying25 rfl ti25 rfl rfl rfl rfl) rfl)) ?_
  refine rg_put (d := 4) (v := .d (.fl (.int .i64 (gck n)))) rfl (og rfl (op_call rfl Tryz.func45 nm45 rfl (.cons rfl (.d _) .nil) (gck_r n) rfl)) ?_
  refine rg_put (d := 5) (v := .d (.fl (.bool (((gck n) != 0))))) rfl (og rfl (op_bin rfl rfl rfl (b_neq _ _ _ _) rfl)) ?_
  refine rg_done rfl ?_
  refine a_cond rfl (fun h1 => ?_) (fun h1 => ?_)
  · skip
    have h2 := t_bne h1
    refine a_rseq ?_
    refine rg_put (d := 6) (v := .d (.ag [.fl (.slice none 0 0), .fl (.slice none 0 0)])) rfl (og rfl (of_eff (op_build rfl Tryz.underlying25 ti25 rfl (by kernel_rfl) (by kernel_rfl) (pl := #[(0, 1), (1, 1)]) (by kernel_rfl) .nil rfl) rfl)) ?_
    refine rg_sto (nw := [(102, .bx 25 [.fl (.slice none 0 0), .fl (.slice none 0 0)])]) rfl (og rfl (of_eff (s_store rfl rfl ti25 rfl rfl rfl rfl rfl rfl) rfl)) ?_
    refine rg_done rfl ?_
    refine a_ret ?_
    show ∃ ds, ResL _ _ _ ds ∧ RV.of ds = _
    refine ⟨[.ag [.sl 3 (List.map ePnt []), .sl 4 (List.map eLnk [])]], (.cons (.cellT rfl rfl Tryz.underlying25 rfl ti25 rfl (Cv.ag (xs := [.fl (.slice none 0 0), .fl (.slice none 0 0)]) (ys := [.sl 3 (List.map ePnt []), .sl 4 (List.map eLnk [])]) ⟨Cv.nil _, Cv.nil _, trivial⟩)) .nil), ?_⟩
    rw [show vN n = _ from if_neg (t_bne h1)]; rfl
  · skip
    have h3 := f_bne h1
    refine a_skip ?_
    show A _ _ _ _ _ _ _
    refine a_rseq ?_
    refine rg_put (d := 7) (v := .d (.ag (eNwk n))) rfl (og rfl (of_eff (s_load_pts rfl Tryz.underlying25 rfl ti25 rfl rfl rfl rfl) rfl)) ?_
    refine rg_sto (nw := [(102, .bx 25 (eNwk n))]) rfl (og rfl (of_eff (s_store rfl rfl ti25 rfl rfl rfl rfl rfl rfl) rfl)) ?_
    refine rg_done rfl ?_
    refine a_ret ?_
    show ∃ ds, ResL _ _ _ ds ∧ RV.of ds = _
    refine ⟨[.ag [.sl 3 (List.map ePnt n.pts), .sl 4 (List.map eLnk n.lks)]], (.cons (.cellT rfl rfl Tryz.underlying25 rfl ti25 rfl (Cv.ag (xs := [.sl 3 (List.map ePnt n.pts), .sl 4 (List.map eLnk n.lks)]) (ys := [.sl 3 (List.map ePnt n.pts), .sl 4 (List.map eLnk n.lks)]) ⟨Cv.refl _, Cv.refl _, trivial⟩)) .nil), ?_⟩
    rw [show vN n = _ from if_pos (f_bne h1)]; rfl
set_option maxHeartbeats 4000000 in
set_option maxRecDepth 100000 in
theorem find_r (n : Nwk) (s : ByteArray) (hl : n.pts.length ≤ 64) (hv : Ctr Tryz.prog 32 [.ag (eNwk n)] (.d (.ag (eNwk n)))) : Ctr Tryz.prog 17 [.ag (eNwk n), .fl (.string s)] (.tu [.ag (ePnt (fN n.pts s).1), .fl (.bool (fN n.pts s).2)]) := by
  refine ctr (n := 22) (rs := #[.cell 4 42, .tmp 5]) (L := [(0, .d (.ag (eNwk n))), (1, .d (.fl (.string s)))]) Tryz.func17 rfl rfl rfl rfl rfl (fun w0 U0 => ?_)
  refine a_rseq ?_
  refine rg_nam (d := 2) (v := .pt 101 0) (m := 101) (nw := [(101, .bx 25 (eNwk n))]) rfl (og rfl (of_eff (op_box 101 rfl rfl rfl rfl) rfl)) rfl ?_
  refine rg_nam (d := 4) (v := .pt 102 0) (m := 102) (nw := [(102, .bx 42 ([.fl (.string (⟨#[]⟩)), .fl (.int .i64 0), .fl (.string (⟨#[]⟩))]))]) rfl (og rfl (of_eff (s_alloc 102 rfl ti42 (by kernel_rfl) rfl) rfl)) rfl ?_
  refine rg_put (d := 5) (v := .d (.fl (.bool false))) rfl (og rfl (op_assign rfl rfl rfl)) ?_
  refine rg_done rfl ?_
  refine a_rseq ?_
  refine rg_put (d := 8) (v := .d (.ag (eNwk n))) rfl (og rfl (of_eff (s_load_pts rfl Tryz.underlying25 rfl ti25 rfl rfl rfl rfl) rfl)) ?_
  refine rg_put (d := 9) (v := .d (.ag (eNwk n))) rfl (og rfl (op_call rfl Tryz.func32 nm32 rfl (.cons rfl (.d _) .nil) hv rfl)) ?_
  refine rg_nam (d := 6) (v := .pt 103 0) (m := 103) (nw := [(103, .bx 25 [.fl (.slice none 0 0), .fl (.slice none 0 0)])]) rfl (og rfl (of_eff (s_alloc 103 rfl ti25 (by kernel_rfl) rfl) rfl)) rfl ?_
  refine rg_sto (nw := [(103, .bx 25 (eNwk n))]) rfl (og rfl (of_eff (s_store rfl rfl ti25 rfl rfl rfl rfl rfl rfl) rfl)) ?_
  refine rg_done rfl ?_
  refine a_rseq ?_
  refine rg_put (d := 10) (v := .pt 103 0) rfl (og rfl (of_eff (s_field_pt rfl Tryz.underlying25 rfl ti22 rfl rfl rfl) rfl)) ?_
  refine rg_put (d := 11) (v := .d (.sl 3 (List.map ePnt n.pts))) rfl (og rfl (op_load_pt rfl Tryz.underlying22 rfl rfl rfl rfl rfl)) ?_
  refine rg_put (d := 12) (v := .d (.fl (.string s))) rfl (og rfl (op_move rfl rfl rfl)) ?_
  rcases plc_cases (l := n.pts) s hl with ⟨h1, h1f⟩ | ⟨qh1, h1, h1l, h1f⟩
  · skip
    refine rg_put (d := 13) (v := .d (.fl (.int .i64 (-1)))) rfl (og rfl (op_call rfl Tryz.func33 nm33 rfl (.cons rfl (.d _) (.cons rfl (.d _) (.cons rfl (.d _) .nil))) ((h1 ▸ place_c n.pts 64 s (by omega) (by omega))) rfl)) ?_
    refine rg_put (d := 7) (v := .d (.fl (.int .i64 (-1)))) rfl (og rfl (op_assign rfl rfl rfl)) ?_
    refine rg_done rfl ?_
    refine a_seq ?_
    refine a_rseq ?_
    refine rg_put (d := 14) (v := .d (.fl (.int .i64 (-1)))) rfl (og rfl (op_move rfl rfl rfl)) ?_
    refine rg_put (d := 15) (v := .d (.fl (.bool ((decide ((-1) < 0)))))) rfl (og rfl (op_bin rfl rfl rfl (b_lss _ _ _ _) rfl)) ?_
    refine rg_done rfl ?_
    refine a_condK rfl rfl ?_
    refine a_rseq ?_
    refine rg_put (d := 16) (v := .d (.ag (ePnt ((Pnt.mk (⟨#[]⟩) 0 (⟨#[]⟩)))))) rfl (og rfl (of_eff (op_build rfl Tryz.underlying42 ti42 rfl (by kernel_rfl) (by kernel_rfl) (pl := #[(0, 1), (1, 1), (2, 1)]) (by kernel_rfl) .nil rfl) rfl)) ?_
    refine rg_sto (nw := [(102, .bx 42 ((ePnt ((Pnt.mk (⟨#[]⟩) 0 (⟨#[]⟩))))))]) rfl (og rfl (of_eff (s_store rfl rfl ti42 rfl rfl rfl rfl rfl rfl) rfl)) ?_
    refine rg_put (d := 5) (v := .d (.fl (.bool false))) rfl (og rfl (op_assign rfl rfl rfl)) ?_
    refine rg_done rfl ?_
    refine a_ret ?_
    show ∃ ds, ResL _ _ _ ds ∧ RV.of ds = _
    refine ⟨[.ag [.fl (.string (((Pnt.mk (⟨#[]⟩) 0 (⟨#[]⟩))).name)), .fl (.int .i64 (((Pnt.mk (⟨#[]⟩) 0 (⟨#[]⟩))).kind)), .fl (.string (((Pnt.mk (⟨#[]⟩) 0 (⟨#[]⟩))).sys))], .fl (.bool false)], (.cons (.cellT rfl rfl Tryz.underlying42 rfl ti42 rfl (Cv.ag (xs := [.fl (.string (((Pnt.mk (⟨#[]⟩) 0 (⟨#[]⟩))).name)), .fl (.int .i64 (((Pnt.mk (⟨#[]⟩) 0 (⟨#[]⟩))).kind)), .fl (.string (((Pnt.mk (⟨#[]⟩) 0 (⟨#[]⟩))).sys))]) (ys := [.fl (.string (((Pnt.mk (⟨#[]⟩) 0 (⟨#[]⟩))).name)), .fl (.int .i64 (((Pnt.mk (⟨#[]⟩) 0 (⟨#[]⟩))).kind)), .fl (.string (((Pnt.mk (⟨#[]⟩) 0 (⟨#[]⟩))).sys))]) ⟨Cv.refl _, Cv.refl _, Cv.refl _, trivial⟩)) (.cons (.tmp rfl (.d _)) .nil)), ?_⟩
    rw [show fN n.pts s = _ from by unfold fN; rw [h1f]]; rfl
  · skip
    refine rg_put (d := 13) (v := .d (.fl (.int .i64 (qh1 : Int)))) rfl (og rfl (op_call rfl Tryz.func33 nm33 rfl (.cons rfl (.d _) (.cons rfl (.d _) (.cons rfl (.d _) .nil))) ((h1 ▸ place_c n.pts 64 s (by omega) (by omega))) rfl)) ?_
    refine rg_put (d := 7) (v := .d (.fl (.int .i64 (qh1 : Int)))) rfl (og rfl (op_assign rfl rfl rfl)) ?_
    refine rg_done rfl ?_
    refine a_seq ?_
    refine a_rseq ?_
    refine rg_put (d := 14) (v := .d (.fl (.int .i64 (qh1 : Int)))) rfl (og rfl (op_move rfl rfl rfl)) ?_
    refine rg_put (d := 15) (v := .d (.fl (.bool ((decide ((qh1 : Int) < 0)))))) rfl (og rfl (op_bin rfl rfl rfl (b_lss _ _ _ _) rfl)) ?_
    refine rg_done rfl ?_
    refine a_condF rfl (decide_eq_false (by omega)) ?_
    refine a_skip ?_
    show A _ _ _ _ _ _ _
    refine a_rseq ?_
    refine rg_put (d := 17) (v := .pt 103 0) rfl (og rfl (of_eff (s_field_pt rfl Tryz.underlying25 rfl ti22 rfl rfl rfl) rfl)) ?_
    refine rg_put (d := 18) (v := .d (.sl 3 (List.map ePnt n.pts))) rfl (og rfl (op_load_pt rfl Tryz.underlying22 rfl rfl rfl rfl rfl)) ?_
    refine rg_put (d := 19) (v := .d (.fl (.int .i64 (qh1 : Int)))) rfl (og rfl (op_move rfl rfl rfl)) ?_
    refine rg_put (d := 20) (v := .el ((ePnt (ix n.pts qh1)))) rfl (og rfl (s_index rfl Tryz.underlying22 ti42 rfl rfl (by omega) (row_at (by omega)) rfl)) ?_
    refine rg_put (d := 21) (v := .d (.ag (ePnt (ix n.pts qh1)))) rfl (og rfl (of_eff (s_load_els rfl Tryz.underlying42 rfl ti42 rfl rfl rfl) rfl)) ?_
    refine rg_sto (nw := [(102, .bx 42 ((ePnt (ix n.pts qh1))))]) rfl (og rfl (of_eff (s_store rfl rfl ti42 rfl rfl rfl rfl rfl rfl) rfl)) ?_
    refine rg_put (d := 5) (v := .d (.fl (.bool true))) rfl (og rfl (op_assign rfl rfl rfl)) ?_
    refine rg_done rfl ?_
    refine a_ret ?_
    show ∃ ds, ResL _ _ _ ds ∧ RV.of ds = _
    refine ⟨[.ag [.fl (.string ((ix n.pts qh1).name)), .fl (.int .i64 ((ix n.pts qh1).kind)), .fl (.string ((ix n.pts qh1).sys))], .fl (.bool true)], (.cons (.cellT rfl rfl Tryz.underlying42 rfl ti42 rfl (Cv.ag (xs := [.fl (.string ((ix n.pts qh1).name)), .fl (.int .i64 ((ix n.pts qh1).kind)), .fl (.string ((ix n.pts qh1).sys))]) (ys := [.fl (.string ((ix n.pts qh1).name)), .fl (.int .i64 ((ix n.pts qh1).kind)), .fl (.string ((ix n.pts qh1).sys))]) ⟨Cv.refl _, Cv.refl _, Cv.refl _, trivial⟩)) (.cons (.tmp rfl (.d _)) .nil)), ?_⟩
    rw [show fN n.pts s = _ from by unfold fN; rw [h1f]]; rfl
theorem find_t (t : Tpg) (s : ByteArray) : Ctr Tryz.prog 17 [.ag (eNwk (vT t).net), .fl (.string s)] (.tu [.ag (ePnt (fN (kn t) s).1), .fl (.bool (fN (kn t) s).2)]) := find_r (vT t).net s (vT_len t) (by have := valid_n (vT t).net; rw [vN_vT] at this; exact this)
set_option maxHeartbeats 4000000 in
set_option maxRecDepth 100000 in
theorem kind_r (t : Tpg) (s : ByteArray) : Ctr Tryz.prog 8 [.ag (eTpg t), .fl (.string s)] (.d (.fl (.int .i64 (kd (kn t) s)))) := by
  refine ctr (n := 17) (rs := #[.tmp 4]) (L := [(0, .d (.ag (eTpg t))), (1, .d (.fl (.string s)))]) Tryz.func8 rfl rfl rfl rfl rfl (fun w0 U0 => ?_)
  refine a_rseq ?_
  refine rg_nam (d := 2) (v := .pt 101 0) (m := 101) (nw := [(101, .bx 28 (eTpg t))]) rfl (og rfl (of_eff (op_box 101 rfl rfl rfl rfl) rfl)) rfl ?_
  refine rg_put (d := 4) (v := .d (.fl (.int .i64 0))) rfl (og rfl (op_assign rfl rfl rfl)) ?_
  refine rg_done rfl ?_
  refine a_rseq ?_
  refine rg_put (d := 8) (v := .d (.ag (eTpg t))) rfl (og rfl (of_eff (s_load_pts rfl Tryz.underlying28 rfl ti28 rfl rfl rfl rfl) rfl)) ?_
  refine rg_put (d := 9) (v := .d (.ag (eTpg (vT t)))) rfl (og rfl (op_call rfl Tryz.func16 nm16 rfl (.cons rfl (.d _) .nil) (valid_t t) rfl)) ?_
  refine rg_put (d := 10) (v := .d (.ag (eNwk ((vT t).net)))) rfl (og rfl (of_eff (op_fieldV rfl Tryz.underlying28 rfl Tryz.underlying25 rfl ti25 rfl rfl rfl rfl) rfl)) ?_
  refine rg_put (d := 11) (v := .d (.fl (.string s))) rfl (og rfl (op_move rfl rfl rfl)) ?_
  refine rg_put (d := 12) (v := .tu [.ag (ePnt ((fN (kn t) s).1)), .fl (.bool ((fN (kn t) s).2))]) rfl (og rfl (op_call rfl Tryz.func17 nm17 rfl (.cons rfl (.d _) (.cons rfl (.d _) .nil)) (find_t t s) rfl)) ?_
  refine rg_put (d := 7) (v := .tu [.ag (ePnt ((fN (kn t) s).1)), .fl (.bool ((fN (kn t) s).2))]) rfl (og rfl (op_move rfl rfl rfl)) ?_
  refine rg_put (d := 13) (v := .d (.ag (ePnt ((fN (kn t) s).1)))) rfl (og rfl (op_extract rfl rfl rfl rfl)) ?_
  refine rg_put (d := 14) (v := .d (.fl (.bool ((fN (kn t) s).2)))) rfl (og rfl (op_extract rfl rfl rfl rfl)) ?_
  refine rg_nam (d := 5) (v := .pt 102 0) (m := 102) (nw := [(102, .bx 42 ([.fl (.string (⟨#[]⟩)), .fl (.int .i64 0), .fl (.string (⟨#[]⟩))]))]) rfl (og rfl (of_eff (s_alloc 102 rfl ti42 (by kernel_rfl) rfl) rfl)) rfl ?_
  refine rg_sto (nw := [(102, .bx 42 ((ePnt ((fN (kn t) s).1))))]) rfl (og rfl (of_eff (s_store rfl rfl ti42 rfl rfl rfl rfl rfl rfl) rfl)) ?_
  refine rg_put (d := 6) (v := .d (.fl (.bool ((fN (kn t) s).2)))) rfl (og rfl (op_assign rfl rfl rfl)) ?_
  refine rg_done rfl ?_
  refine a_rseq ?_
  refine rg_put (d := 15) (v := .pt 102 1) rfl (og rfl (of_eff (s_field_pt rfl Tryz.underlying42 rfl ti3 rfl rfl rfl) rfl)) ?_
  refine rg_put (d := 16) (v := .d (.fl (.int .i64 (((fN (kn t) s).1).kind)))) rfl (og rfl (op_load_pt rfl Tryz.underlying3 rfl rfl rfl rfl rfl)) ?_
  refine rg_put (d := 4) (v := .d (.fl (.int .i64 (((fN (kn t) s).1).kind)))) rfl (og rfl (op_assign rfl rfl rfl)) ?_
  refine rg_done rfl ?_
  refine a_ret ?_
  show ∃ ds, ResL _ _ _ ds ∧ RV.of ds = _
  refine ⟨[.fl (.int .i64 (((fN (kn t) s).1).kind))], (.cons (.tmp rfl (.d _)) .nil), ?_⟩
  rfl
set_option maxHeartbeats 4000000 in
set_option maxRecDepth 100000 in
theorem sysr_c (t : Tpg) (s : ByteArray) (p : Pnt) (b : Bool) (R : Sys × Bool) (hF : Ctr Tryz.prog 17 [.ag (eNwk (vT t).net), .fl (.string s)] (.tu [.ag (ePnt p), .fl (.bool b)])) (hR0 : b = false → R = (zS, false)) (hR1 : sEq p.sys ⟨#[]⟩ = true → R = (zS, false)) (hR2 : ∀ y, sF (vT t).syss p.sys = some y → R = (y, true)) (hin : b = true → sEq p.sys ⟨#[]⟩ = false → (sF (vT t).syss p.sys).isSome = true) (q0 : (vT t).syss.length ≤ 64) : Ctr Tryz.prog 6 [.ag (eTpg t), .fl (.string s)] (.tu [.ag (eSys R.1), .fl (.bool R.2)]) := by
  refine ctr (n := 35) (rs := #[.cell 4 31, .tmp 5]) (L := [(0, .d (.ag (eTpg t))), (1, .d (.fl (.string s)))]) Tryz.func6 rfl rfl rfl rfl rfl (fun w0 U0 => ?_)
  refine a_rseq ?_
  refine rg_nam (d := 2) (v := .pt 101 0) (m := 101) (nw := [(101, .bx 28 (eTpg t))]) rfl (og rfl (of_eff (op_box 101 rfl rfl rfl rfl) rfl)) rfl ?_
  refine rg_nam (d := 4) (v := .pt 102 0) (m := 102) (nw := [(102, .bx 31 ([.fl (.string (⟨#[]⟩)), .fl (.bool false), .fl (.int .i64 0)]))]) rfl (og rfl (of_eff (s_alloc 102 rfl ti31 (by kernel_rfl) rfl) rfl)) rfl ?_
  refine rg_put (d := 5) (v := .d (.fl (.bool false))) rfl (og rfl (op_assign rfl rfl rfl)) ?_
  refine rg_done rfl ?_
  refine a_rseq ?_
  refine rg_put (d := 9) (v := .d (.ag (eTpg t))) rfl (og rfl (of_eff (s_load_pts rfl Tryz.underlying28 rfl ti28 rfl rfl rfl rfl) rfl)) ?_
  refine rg_put (d := 10) (v := .d (.ag (eTpg (vT t)))) rfl (og rfl (op_call rfl Tryz.func16 nm16 rfl (.cons rfl (.d _) .nil) (valid_t t) rfl)) ?_
  refine rg_nam (d := 6) (v := .pt 103 0) (m := 103) (nw := [(103, .bx 28 [.fl (.slice none 0 0), .fl (.slice none 0 0), .fl (.slice none 0 0)])]) rfl (og rfl (of_eff (s_alloc 103 rfl ti28 (by kernel_rfl) rfl) rfl)) rfl ?_
  refine rg_sto (nw := [(103, .bx 28 ((eTpg (vT t))))]) rfl (og rfl (of_eff (s_store rfl rfl ti28 rfl rfl rfl rfl rfl rfl) rfl)) ?_
  refine rg_done rfl ?_
  refine a_rseq ?_
  refine rg_put (d := 12) (v := .pt 103 0) rfl (og rfl (of_eff (s_field_pt rfl Tryz.underlying28 rfl ti25 rfl rfl rfl) rfl)) ?_
  refine rg_put (d := 13) (v := .d (.ag (eNwk ((vT t).net)))) rfl (og rfl (of_eff (s_load_pts rfl Tryz.underlying25 rfl ti25 rfl rfl rfl rfl) rfl)) ?_
  refine rg_put (d := 14) (v := .d (.fl (.string s))) rfl (og rfl (op_move rfl rfl rfl)) ?_
  refine rg_put (d := 15) (v := .tu [.ag (ePnt p), .fl (.bool b)]) rfl (og rfl (op_call rfl Tryz.func17 nm17 rfl (.cons rfl (.d _) (.cons rfl (.d _) .nil)) hF rfl)) ?_
  refine rg_put (d := 11) (v := .tu [.ag (ePnt p), .fl (.bool b)]) rfl (og rfl (op_move rfl rfl rfl)) ?_
  refine rg_put (d := 16) (v := .d (.ag (ePnt p))) rfl (og rfl (op_extract rfl rfl rfl rfl)) ?_
  refine rg_put (d := 17) (v := .d (.fl (.bool b))) rfl (og rfl (op_extract rfl rfl rfl rfl)) ?_
  refine rg_nam (d := 7) (v := .pt 104 0) (m := 104) (nw := [(104, .bx 42 ([.fl (.string (⟨#[]⟩)), .fl (.int .i64 0), .fl (.string (⟨#[]⟩))]))]) rfl (og rfl (of_eff (s_alloc 104 rfl ti42 (by kernel_rfl) rfl) rfl)) rfl ?_
  refine rg_sto (nw := [(104, .bx 42 (ePnt p))]) rfl (og rfl (of_eff (s_store rfl rfl ti42 rfl rfl rfl rfl rfl rfl) rfl)) ?_
  refine rg_put (d := 8) (v := .d (.fl (.bool b))) rfl (og rfl (op_assign rfl rfl rfl)) ?_
  refine rg_done rfl ?_
  refine a_seq ?_
  refine a_rseq ?_
  refine rg_put (d := 18) (v := .d (.fl (.bool b))) rfl (og rfl (op_move rfl rfl rfl)) ?_
  refine rg_put (d := 19) (v := .d (.fl (.bool (!b)))) rfl (og rfl (op_un rfl rfl (u_not _) rfl)) ?_
  refine rg_put (d := 20) (v := .d (.fl (.bool (!b)))) rfl (og rfl (op_move rfl rfl rfl)) ?_
  rcases fot (!b) with h1 | h1
  · skip
    have h2 := f_not h1
    refine rg_put (d := 21) (v := .pt 104 2) rfl (oy rfl rfl rfl h1 (of_eff (s_field_pt rfl Tryz.underlying42 rfl ti9 rfl rfl rfl) rfl)) ?_
    refine rg_put (d := 22) (v := .d (.fl (.string p.sys))) rfl (oy rfl rfl rfl h1 (op_load_pt rfl Tryz.underlying9 rfl rfl rfl rfl rfl)) ?_
    refine rg_put (d := 23) (v := .d (.fl (.bool ((sEq p.sys (⟨#[]⟩)))))) rfl (oy rfl rfl rfl h1 (op_bin rfl rfl rfl (b_seq _ _ _) rfl)) ?_
    refine rg_put (d := 24) (v := .d (.fl (.bool ((sEq p.sys (⟨#[]⟩)))))) rfl (og rfl (op_pick rfl rfl (by rw [h1]; rfl) rfl)) ?_
    refine rg_done rfl ?_
    refine a_cond rfl (fun h3 => ?_) (fun h3 => ?_)
    · skip
      refine a_rseq ?_
      refine rg_put (d := 25) (v := .d (.ag (eSys ((Sys.mk (⟨#[]⟩) false 0))))) rfl (og rfl (of_eff (op_build rfl Tryz.underlying31 ti31 rfl (by kernel_rfl) (by kernel_rfl) (pl := #[(0, 1), (1, 1), (2, 1)]) (by kernel_rfl) .nil rfl) rfl)) ?_
      refine rg_sto (nw := [(102, .bx 31 ((eSys ((Sys.mk (⟨#[]⟩) false 0)))))]) rfl (og rfl (of_eff (s_store rfl rfl ti31 rfl rfl rfl rfl rfl rfl) rfl)) ?_
      refine rg_put (d := 5) (v := .d (.fl (.bool false))) rfl (og rfl (op_assign rfl rfl rfl)) ?_
      refine rg_done rfl ?_
      refine a_ret ?_
      show ∃ ds, ResL _ _ _ ds ∧ RV.of ds = _
      refine ⟨[.ag [.fl (.string (((Sys.mk (⟨#[]⟩) false 0)).name)), .fl (.bool (((Sys.mk (⟨#[]⟩) false 0)).closed)), .fl (.int .i64 (((Sys.mk (⟨#[]⟩) false 0)).most))], .fl (.bool false)], (.cons (.cellT rfl rfl Tryz.underlying31 rfl ti31 rfl (Cv.ag (xs := [.fl (.string (((Sys.mk (⟨#[]⟩) false 0)).name)), .fl (.bool (((Sys.mk (⟨#[]⟩) false 0)).closed)), .fl (.int .i64 (((Sys.mk (⟨#[]⟩) false 0)).most))]) (ys := [.fl (.string (((Sys.mk (⟨#[]⟩) false 0)).name)), .fl (.bool (((Sys.mk (⟨#[]⟩) false 0)).closed)), .fl (.int .i64 (((Sys.mk (⟨#[]⟩) false 0)).most))]) ⟨Cv.refl _, Cv.refl _, Cv.refl _, trivial⟩)) (.cons (.tmp rfl (.d _)) .nil)), ?_⟩
      rw [hR1 h3]; rfl
    · skip
      refine a_skip ?_
      show A _ _ _ _ _ _ _
      refine a_dseq (by kernel_rfl) ?_
      refine dr_put (d := 26) (v := .pt 103 2) rfl (og rfl (of_eff (s_field_pt rfl Tryz.underlying28 rfl ti26 rfl rfl rfl) rfl)) ?_
      refine dr_put (d := 27) (v := .d (.sl 3 (List.map eSys ((vT t).syss)))) rfl (og rfl (op_load_pt rfl Tryz.underlying26 rfl rfl rfl rfl rfl)) ?_
      refine dr_put (d := 28) (v := .pt 103 2) rfl (og rfl (of_eff (s_field_pt rfl Tryz.underlying28 rfl ti26 rfl rfl rfl) rfl)) ?_
      refine dr_put (d := 29) (v := .d (.sl 3 (List.map eSys ((vT t).syss)))) rfl (og rfl (op_load_pt rfl Tryz.underlying26 rfl rfl rfl rfl rfl)) ?_
      refine dr_put (d := 30) (v := .pt 104 2) rfl (og rfl (of_eff (s_field_pt rfl Tryz.underlying42 rfl ti9 rfl rfl rfl) rfl)) ?_
      refine dr_put (d := 31) (v := .d (.fl (.string p.sys))) rfl (og rfl (op_load_pt rfl Tryz.underlying9 rfl rfl rfl rfl rfl)) ?_
      obtain ⟨qh4, h4, h4l, h4f⟩ := fIx_in (hin h2 h3)
      · skip
        refine dr_put (d := 32) (v := .d (.fl (.int .i64 (qh4 : Int)))) rfl (og rfl (op_call rfl Tryz.func18 nm18 rfl (.cons rfl (.d _) (.cons rfl (.d _) .nil)) (find_c (vT t).syss p.sys _ (by omega) h4) rfl)) ?_
        refine dr_put (d := 33) (v := .el ((eSys ((ix ((vT t).syss) qh4))))) rfl (og rfl (s_index rfl Tryz.underlying26 ti31 rfl rfl (by first | omega | (have := q0; omega)) (row_at (by first | omega | (have := q0; omega))) rfl)) ?_
        refine dr_put (d := 34) (v := .d (.ag (eSys (((ix ((vT t).syss) qh4)))))) rfl (og rfl (of_eff (s_load_els rfl Tryz.underlying31 rfl ti31 rfl rfl rfl) rfl)) ?_
        refine dr_sto (nw := [(102, .bx 31 ((eSys (((ix ((vT t).syss) qh4))))))]) rfl (og rfl (of_eff (s_store rfl rfl ti31 rfl rfl rfl rfl rfl rfl) rfl)) ?_
        refine dr_put (d := 5) (v := .d (.fl (.bool true))) rfl (og rfl (op_assign rfl rfl rfl)) ?_
        refine dr_done rfl (by kernel_rfl) (by kernel_rfl) ?_
        refine a_ret ?_
        show ∃ ds, ResL _ _ _ ds ∧ RV.of ds = _
        refine ⟨[.ag [.fl (.string ((((ix ((vT t).syss) qh4))).name)), .fl (.bool ((((ix ((vT t).syss) qh4))).closed)), .fl (.int .i64 ((((ix ((vT t).syss) qh4))).most))], .fl (.bool true)], (.cons (.cellT rfl rfl Tryz.underlying31 rfl ti31 rfl (Cv.ag (xs := [.fl (.string ((((ix ((vT t).syss) qh4))).name)), .fl (.bool ((((ix ((vT t).syss) qh4))).closed)), .fl (.int .i64 ((((ix ((vT t).syss) qh4))).most))]) (ys := [.fl (.string ((((ix ((vT t).syss) qh4))).name)), .fl (.bool ((((ix ((vT t).syss) qh4))).closed)), .fl (.int .i64 ((((ix ((vT t).syss) qh4))).most))]) ⟨Cv.refl _, Cv.refl _, Cv.refl _, trivial⟩)) (.cons (.tmp rfl (.d _)) .nil)), ?_⟩
        rw [hR2 _ h4f]; rfl
  · skip
    have h5 := t_not h1
    refine rg_put (d := 21) (v := .d (.fl undef)) rfl (on rfl rfl rfl h1) ?_
    refine rg_put (d := 22) (v := .d (.fl undef)) rfl (on rfl rfl rfl h1) ?_
    refine rg_put (d := 23) (v := .d (.fl undef)) rfl (on rfl rfl rfl h1) ?_
    refine rg_put (d := 24) (v := .d (.fl (.bool true))) rfl (og rfl (op_pick rfl rfl (by rw [h1]; rfl) rfl)) ?_
    refine rg_done rfl ?_
    refine a_condK rfl rfl ?_
    refine a_rseq ?_
    refine rg_put (d := 25) (v := .d (.ag (eSys ((Sys.mk (⟨#[]⟩) false 0))))) rfl (og rfl (of_eff (op_build rfl Tryz.underlying31 ti31 rfl (by kernel_rfl) (by kernel_rfl) (pl := #[(0, 1), (1, 1), (2, 1)]) (by kernel_rfl) .nil rfl) rfl)) ?_
    refine rg_sto (nw := [(102, .bx 31 ((eSys ((Sys.mk (⟨#[]⟩) false 0)))))]) rfl (og rfl (of_eff (s_store rfl rfl ti31 rfl rfl rfl rfl rfl rfl) rfl)) ?_
    refine rg_put (d := 5) (v := .d (.fl (.bool false))) rfl (og rfl (op_assign rfl rfl rfl)) ?_
    refine rg_done rfl ?_
    refine a_ret ?_
    show ∃ ds, ResL _ _ _ ds ∧ RV.of ds = _
    refine ⟨[.ag [.fl (.string (((Sys.mk (⟨#[]⟩) false 0)).name)), .fl (.bool (((Sys.mk (⟨#[]⟩) false 0)).closed)), .fl (.int .i64 (((Sys.mk (⟨#[]⟩) false 0)).most))], .fl (.bool false)], (.cons (.cellT rfl rfl Tryz.underlying31 rfl ti31 rfl (Cv.ag (xs := [.fl (.string (((Sys.mk (⟨#[]⟩) false 0)).name)), .fl (.bool (((Sys.mk (⟨#[]⟩) false 0)).closed)), .fl (.int .i64 (((Sys.mk (⟨#[]⟩) false 0)).most))]) (ys := [.fl (.string (((Sys.mk (⟨#[]⟩) false 0)).name)), .fl (.bool (((Sys.mk (⟨#[]⟩) false 0)).closed)), .fl (.int .i64 (((Sys.mk (⟨#[]⟩) false 0)).most))]) ⟨Cv.refl _, Cv.refl _, Cv.refl _, trivial⟩)) (.cons (.tmp rfl (.d _)) .nil)), ?_⟩
    rw [hR0 h5]; rfl
theorem fN_pF {l : List Pnt} {s : ByteArray} (h : (fN l s).2 = true) : pF l s = some (fN l s).1 := by
  unfold fN at *
  cases h1 : pF l s with
  | none => rw [h1] at h; cases h
  | some p => rfl
theorem fN_no {l : List Pnt} {s : ByteArray} (h : (fN l s).2 = false) : (fN l s).1 = zP := by
  unfold fN at *
  cases h1 : pF l s with
  | none => rfl
  | some p => rw [h1] at h; cases h
theorem sysR (t : Tpg) (s : ByteArray) : Ctr Tryz.prog 6 [.ag (eTpg t), .fl (.string s)] (.tu [.ag (eSys (sR t s).1), .fl (.bool (sR t s).2)]) := by
  refine sysr_c t s (fN (kn t) s).1 (fN (kn t) s).2 (sR t s) (find_t t s) (fun h => ?_) (fun h => ?_) (fun y h => ?_) (fun h1 h2 => sys_in (fN_pF h1) h2) (vT_sys t)
  · unfold sR sy; rw [fN_no h, show zP.sys = ⟨#[]⟩ from rfl, sF_e]
  · unfold sR sy; rw [sEq_eq h, sF_e]
  · unfold sR sy; rw [h]

end Go.Proofs.YtlmihhecpaomjaaGreat.Wk
