/- Proofs and withdrawals. Condition: lists of at most two thousand. -/
import Derived.Test.YtocjbombpggmeaaB6
set_option linter.unusedSimpArgs false
set_option linter.unusedVariables false
namespace Go.Proofs.Ytocjbombpggmeaa.Wk
open Go Go.RowKit Go.Proofs.Ytocjbombpggmeaa.Av
def fcode (l : List Dp) (key : ByteArray) : Int := if decide (dfind l key < 0) = true then 10 else if ((ix l (dfind l key).toNat).state != 1) = true then 11 else 0
def itm (d : Dp) (t sec : Int) : Int := if (!isT t || decide (t < d.time)) = true then 12 else if decide (d.time + sec < t) = true then 29 else 0
theorem isT_t {t : Int} (h : isT t = true) : 0 ≤ t ∧ t < 68719476736 := by simpa [isT] using h
theorem idx_lt {α : Type} {p : α → Bool} {l : List α} : idx p l < (l.length : Int) := by
  unfold idx
  split
  · rename_i i h
    have := (List.findIdx?_eq_some_iff_getElem.1 h).1
    omega
  · omega
theorem dfind_lt (l : List Dp) (key : ByteArray) : dfind l key < (l.length : Int) := idx_lt
theorem fcode_ok {l : List Dp} {key : ByteArray} (h : fcode l key = 0) : 0 ≤ dfind l key ∧ (ix l (dfind l key).toNat).state = 1 := by
  unfold fcode at h
  split at h
  · cases h
  · rename_i h1
    split at h
    · cases h
    · rename_i h2
      simp at h1 h2
      exact ⟨by omega, h2⟩
def addP (x : Dp) (p : ByteArray) : Dp := { x with proofs := x.proofs ++ [p] }
def setS (x : Dp) (n : Int) : Dp := { x with state := n }
def prove (l : List Dp) (key id : ByteArray) (t : Int) : List Dp × Int :=
  if (fcode l key != 0) = true then (l, fcode l key) else if (itm (ix l (dfind l key).toNat) t 2592000 != 0) = true then (l, itm (ix l (dfind l key).toNat) t 2592000) else
  if (!isR id) = true then (l, 5) else if am id (ix l (dfind l key).toNat).proofs = true then (l, 9) else if decide ((16 : Int) ≤ ((ix l (dfind l key).toNat).proofs.length : Int)) = true then (l, 3) else
  (l.set (dfind l key).toNat (addP (ix l (dfind l key).toNat) id), 0)
def withdraw (l : List Dp) (key : ByteArray) : List Dp × Int :=
  if (fcode l key != 0) = true then (l, fcode l key) else (l.set (dfind l key).toNat (setS (ix l (dfind l key).toNat) 4), 0)
theorem map_at {l : List Dp} {i : Nat} (h : i < l.length) : (l.map oDp)[i]? = some (oDp (ix l i)) := by
  rw [List.getElem?_map, ix_get h]; rfl
theorem oDp_ok (y : Dp) : ∀ c ∈ oDp y, c.ok = true := by
  intro c hc
  simp [oDp] at hc
  rcases hc with rfl | rfl | rfl | rfl | rfl <;> rfl
theorem set1_ok {l : List Dp} {i : Nat} {y : Dp} : ∀ r ∈ (l.map oDp).set i (oDp y), ∀ c ∈ r, c.ok = true := by
  intro r hr
  rcases List.mem_or_eq_of_mem_set hr with h | h
  · obtain ⟨x, _, rfl⟩ := List.mem_map.1 h
    exact oDp_ok x
  · rw [h]; exact oDp_ok y
theorem set1_rd {l : List Dp} {i : Nat} {y : Dp} : ((l.map oDp).set i (oDp y)).map (·.map OC.rd) = List.map eDp (l.set i y) := by
  rw [List.map_set, List.map_set, List.map_map]; rfl
theorem set2_ok {l : List Dp} {i : Nat} {u : List OC} {y : Dp} : ∀ r ∈ ((l.map oDp).set i u).set i (oDp y), ∀ c ∈ r, c.ok = true := by
  rw [List.set_set]; exact set1_ok
theorem set2_rd {l : List Dp} {i : Nat} {u : List OC} {y : Dp} : (((l.map oDp).set i u).set i (oDp y)).map (·.map OC.rd) = List.map eDp (l.set i y) := by
  rw [List.set_set]; exact set1_rd

set_option maxHeartbeats 4000000 in
set_option maxRecDepth 100000 in
theorem find35 (l : List Dp) (key : ByteArray) (hl : l.length < 9223372036854775807) : Ctr Try.prog 35 [.sl 5 (List.map eDp l), .fl (.string key)] (.tu [.fl (.int .i64 (dfind l key)), .fl (.int .i64 (fcode l key))]) := by
  refine ctr (n := 21) (rs := #[.tmp 4, .tmp 5]) (L := [(0, .d (.sl 5 (List.map eDp l))), (1, .d (.fl (.string key)))]) Try.func35 rfl rfl rfl rfl rfl (fun w0 U0 => ?_)
  refine a_rseq ?_
  refine rg_nam (d := 3) (v := .pt 101 0) (m := 101) (nw := [(101, .bx 9 [.fl (.string key)])]) rfl (og rfl (of_eff (op_box 101 rfl rfl rfl rfl) rfl)) rfl ?_
  refine rg_put (d := 4) (v := .d (.fl (.int .i64 0))) rfl (og rfl (op_assign rfl rfl rfl)) ?_
  refine rg_put (d := 5) (v := .d (.fl (.int .i64 0))) rfl (og rfl (op_assign rfl rfl rfl)) ?_
  refine rg_done rfl ?_
  refine a_rseq ?_
  refine rg_imp (imp_freeze 3 101 rfl rfl) ?_
  refine rg_put (d := 7) (v := .d (.sl 5 (List.map eDp l))) rfl (og rfl (op_move rfl rfl rfl)) ?_
  refine rg_put (d := 8) (v := .d (.fn 47 [.el [.fl (.string key)]])) rfl (og rfl (op_mkfn rfl (.cons rfl .nil) rfl)) ?_
  refine rg_put (d := 9) (v := .d (.fl (.int .i64 (dfind l key)))) rfl (og rfl (op_call rfl Try.func32 nm32 rfl (.cons rfl (.d _) (.cons rfl (.d _) .nil)) (d_index47 l key (by omega)) rfl)) ?_
  refine rg_put (d := 6) (v := .d (.fl (.int .i64 (dfind l key)))) rfl (og rfl (op_assign rfl rfl rfl)) ?_
  refine rg_done rfl ?_
  refine a_seq ?_
  refine a_rseq ?_
  refine rg_put (d := 10) (v := .d (.fl (.int .i64 (dfind l key)))) rfl (og rfl (op_move rfl rfl rfl)) ?_
  refine rg_put (d := 11) (v := .d (.fl (.bool ((decide ((dfind l key) < 0)))))) rfl (og rfl (op_bin rfl rfl rfl (b_lss _ _ _ _) rfl)) ?_
  refine rg_done rfl ?_
  refine a_cond rfl (fun h1 => ?_) (fun h1 => ?_)
  · skip
    have h2 := t_dec h1
    refine a_rseq ?_
    refine rg_put (d := 12) (v := .d (.fl (.int .i64 (dfind l key)))) rfl (og rfl (op_move rfl rfl rfl)) ?_
    refine rg_put (d := 4) (v := .d (.fl (.int .i64 (dfind l key)))) rfl (og rfl (op_assign rfl rfl rfl)) ?_
    refine rg_put (d := 5) (v := .d (.fl (.int .i64 10))) rfl (og rfl (op_assign rfl rfl rfl)) ?_
    refine rg_done rfl ?_
    refine a_ret ?_
    show ∃ ds, ResL _ _ _ ds ∧ RV.of ds = _
    refine ⟨[.fl (.int .i64 (dfind l key)), .fl (.int .i64 10)], (.cons (.tmp rfl (.d _)) (.cons (.tmp rfl (.d _)) .nil)), ?_⟩
    have hu : fcode l key = 10 := by
      unfold fcode; simp only [h1]; rfl
    rw [hu]; rfl
  · skip
    have h3 := f_dec h1
    refine a_skip ?_
    show A _ _ _ _ _ _ _
    refine a_seq ?_
    refine a_rseq ?_
    have hi := dfind_lt l key
    refine rg_put (d := 13) (v := .d (.sl 5 (List.map eDp l))) rfl (og rfl (op_move rfl rfl rfl)) ?_
    refine rg_put (d := 14) (v := .d (.fl (.int .i64 (dfind l key)))) rfl (og rfl (op_move rfl rfl rfl)) ?_
    refine rg_put (d := 15) (v := .el ((eDp ((ix l ((dfind l key)).toNat))))) rfl (og rfl (s_index rfl Try.underlying22 ti40 rfl rfl (by omega) (row_atI (by omega) (by omega)) rfl)) ?_
    refine rg_put (d := 16) (v := .el ((List.drop 3 ((eDp ((ix l ((dfind l key)).toNat))))))) rfl (og rfl (of_eff (s_field_el rfl Try.underlying40 rfl ti3 rfl rfl rfl) rfl)) ?_
    refine rg_put (d := 17) (v := .d (.fl (.int .i64 (((ix l ((dfind l key)).toNat)).state)))) rfl (og rfl (op_load_el rfl Try.underlying3 rfl rfl rfl rfl)) ?_
    refine rg_put (d := 18) (v := .d (.fl (.bool ((((ix l ((dfind l key)).toNat)).state != 1))))) rfl (og rfl (op_bin rfl rfl rfl (b_neq _ _ _ _) rfl)) ?_
    refine rg_done rfl ?_
    refine a_cond rfl (fun h4 => ?_) (fun h4 => ?_)
    · skip
      have h5 := t_bne h4
      refine a_rseq ?_
      refine rg_put (d := 19) (v := .d (.fl (.int .i64 (dfind l key)))) rfl (og rfl (op_move rfl rfl rfl)) ?_
      refine rg_put (d := 4) (v := .d (.fl (.int .i64 (dfind l key)))) rfl (og rfl (op_assign rfl rfl rfl)) ?_
      refine rg_put (d := 5) (v := .d (.fl (.int .i64 11))) rfl (og rfl (op_assign rfl rfl rfl)) ?_
      refine rg_done rfl ?_
      refine a_ret ?_
      show ∃ ds, ResL _ _ _ ds ∧ RV.of ds = _
      refine ⟨[.fl (.int .i64 (dfind l key)), .fl (.int .i64 11)], (.cons (.tmp rfl (.d _)) (.cons (.tmp rfl (.d _)) .nil)), ?_⟩
      have hu : fcode l key = 11 := by
        unfold fcode; simp only [h1, h4]; rfl
      rw [hu]; rfl
    · skip
      have h6 := f_bne h4
      refine a_skip ?_
      show A _ _ _ _ _ _ _
      refine a_rseq ?_
      refine rg_put (d := 20) (v := .d (.fl (.int .i64 (dfind l key)))) rfl (og rfl (op_move rfl rfl rfl)) ?_
      refine rg_put (d := 4) (v := .d (.fl (.int .i64 (dfind l key)))) rfl (og rfl (op_assign rfl rfl rfl)) ?_
      refine rg_put (d := 5) (v := .d (.fl (.int .i64 0))) rfl (og rfl (op_assign rfl rfl rfl)) ?_
      refine rg_done rfl ?_
      refine a_ret ?_
      show ∃ ds, ResL _ _ _ ds ∧ RV.of ds = _
      refine ⟨[.fl (.int .i64 (dfind l key)), .fl (.int .i64 0)], (.cons (.tmp rfl (.d _)) (.cons (.tmp rfl (.d _)) .nil)), ?_⟩
      have hu : fcode l key = 0 := by
        unfold fcode; simp only [h1, h4]; rfl
      rw [hu]; rfl
set_option maxHeartbeats 4000000 in
set_option maxRecDepth 100000 in
theorem inTime36 (d : Dp) (t sec : Int) (h0 : 0 ≤ sec) (h1 : sec ≤ 68719476736) (h2 : -9223372036854775808 ≤ d.time) : Ctr Try.prog 36 [.ag (eDp d), .fl (.int .i64 t), .fl (.int .i64 sec)] (.d (.fl (.int .i64 (itm d t sec)))) := by
  refine ctr (n := 22) (rs := #[.tmp 6]) (L := [(0, .d (.ag (eDp d))), (1, .d (.fl (.int .i64 t))), (2, .d (.fl (.int .i64 sec)))]) Try.func36 rfl rfl rfl rfl rfl (fun w0 U0 => ?_)
  refine a_rseq ?_
  refine rg_nam (d := 3) (v := .pt 101 0) (m := 101) (nw := [(101, .bx 40 (eDp d))]) rfl (og rfl (of_eff (op_box 101 rfl rfl rfl rfl) rfl)) rfl ?_
  refine rg_put (d := 6) (v := .d (.fl (.int .i64 0))) rfl (og rfl (op_assign rfl rfl rfl)) ?_
  refine rg_done rfl ?_
  refine a_seq ?_
  refine a_rseq ?_
  refine rg_put (d := 7) (v := .d (.fl (.int .i64 t))) rfl (og rfl (op_move rfl rfl rfl)) ?_
  refine rg_put (d := 8) (v := .d (.fl (.bool (isT t)))) rfl (og rfl (op_call rfl Try.func20 nm20 rfl (.cons rfl (.d _) .nil) (isTime20 t) rfl)) ?_
  refine rg_put (d := 9) (v := .d (.fl (.bool ((!(isT t)))))) rfl (og rfl (op_un rfl rfl (u_not _) rfl)) ?_
  refine rg_put (d := 10) (v := .d (.fl (.bool ((!(isT t)))))) rfl (og rfl (op_move rfl rfl rfl)) ?_
  rcases fot ((!(isT t))) with h1 | h1
  · skip
    have h2 := f_not h1
    have := isT_t h2
    refine rg_put (d := 11) (v := .d (.fl (.int .i64 t))) rfl (oy rfl rfl rfl h1 (op_move rfl rfl rfl)) ?_
    refine rg_put (d := 12) (v := .pt 101 1) rfl (oy rfl rfl rfl h1 (of_eff (s_field_pt rfl Try.underlying40 rfl ti3 rfl rfl rfl) rfl)) ?_
    refine rg_put (d := 13) (v := .d (.fl (.int .i64 d.time))) rfl (oy rfl rfl rfl h1 (op_load_pt rfl Try.underlying3 rfl rfl rfl rfl rfl)) ?_
    refine rg_put (d := 14) (v := .d (.fl (.bool ((decide (t < d.time)))))) rfl (oy rfl rfl rfl h1 (op_bin rfl rfl rfl (b_lss _ _ _ _) rfl)) ?_
    refine rg_put (d := 15) (v := .d (.fl (.bool ((decide (t < d.time)))))) rfl (og rfl (op_pick rfl rfl (by rw [h1]; rfl) rfl)) ?_
    refine rg_done rfl ?_
    refine a_cond rfl (fun h3 => ?_) (fun h3 => ?_)
    · skip
      have h4 := t_dec h3
      refine a_rseq ?_
      refine rg_put (d := 6) (v := .d (.fl (.int .i64 12))) rfl (og rfl (op_assign rfl rfl rfl)) ?_
      refine rg_done rfl ?_
      refine a_ret ?_
      show ∃ ds, ResL _ _ _ ds ∧ RV.of ds = _
      refine ⟨[.fl (.int .i64 12)], (.cons (.tmp rfl (.d _)) .nil), ?_⟩
      have hu : itm d t sec = 12 := by
        unfold itm; simp only [h1, h2, h3]; rfl
      rw [hu]; rfl
    · skip
      have h5 := f_dec h3
      refine a_skip ?_
      show A _ _ _ _ _ _ _
      refine a_seq ?_
      refine a_rseq ?_
      refine rg_put (d := 16) (v := .d (.fl (.int .i64 t))) rfl (og rfl (op_move rfl rfl rfl)) ?_
      refine rg_put (d := 17) (v := .pt 101 1) rfl (og rfl (of_eff (s_field_pt rfl Try.underlying40 rfl ti3 rfl rfl rfl) rfl)) ?_
      refine rg_put (d := 18) (v := .d (.fl (.int .i64 d.time))) rfl (og rfl (op_load_pt rfl Try.underlying3 rfl rfl rfl rfl rfl)) ?_
      refine rg_put (d := 19) (v := .d (.fl (.int .i64 sec))) rfl (og rfl (op_move rfl rfl rfl)) ?_
      refine rg_put (d := 20) (v := .d (.fl (.int .i64 (d.time + sec)))) rfl (og rfl (op_bin rfl rfl rfl (fun x y w => b_add64 _ _ _ x y w (by omega)) rfl)) ?_
      refine rg_put (d := 21) (v := .d (.fl (.bool ((decide ((d.time + sec) < t)))))) rfl (og rfl (op_bin rfl rfl rfl (b_gtr _ _ _ _) rfl)) ?_
      refine rg_done rfl ?_
      refine a_cond rfl (fun h6 => ?_) (fun h6 => ?_)
      · skip
        have h7 := t_dec h6
        refine a_rseq ?_
        refine rg_put (d := 6) (v := .d (.fl (.int .i64 29))) rfl (og rfl (op_assign rfl rfl rfl)) ?_
        refine rg_done rfl ?_
        refine a_ret ?_
        show ∃ ds, ResL _ _ _ ds ∧ RV.of ds = _
        refine ⟨[.fl (.int .i64 29)], (.cons (.tmp rfl (.d _)) .nil), ?_⟩
        have hu : itm d t sec = 29 := by
          unfold itm; simp only [h1, h2, h3, h6]; rfl
        rw [hu]; rfl
      · skip
        have h8 := f_dec h6
        refine a_skip ?_
        show A _ _ _ _ _ _ _
        refine a_rseq ?_
        refine rg_put (d := 6) (v := .d (.fl (.int .i64 0))) rfl (og rfl (op_assign rfl rfl rfl)) ?_
        refine rg_done rfl ?_
        refine a_ret ?_
        show ∃ ds, ResL _ _ _ ds ∧ RV.of ds = _
        refine ⟨[.fl (.int .i64 0)], (.cons (.tmp rfl (.d _)) .nil), ?_⟩
        have hu : itm d t sec = 0 := by
          unfold itm; simp only [h1, h2, h3, h6]; rfl
        rw [hu]; rfl
  · skip
    have h9 := t_not h1
    refine rg_put (d := 11) (v := .d (.fl undef)) rfl (on rfl rfl rfl h1) ?_
    refine rg_put (d := 12) (v := .d (.fl undef)) rfl (on rfl rfl rfl h1) ?_
    refine rg_put (d := 13) (v := .d (.fl undef)) rfl (on rfl rfl rfl h1) ?_
    refine rg_put (d := 14) (v := .d (.fl undef)) rfl (on rfl rfl rfl h1) ?_
    refine rg_put (d := 15) (v := .d (.fl (.bool true))) rfl (og rfl (op_pick rfl rfl (by rw [h1]; rfl) rfl)) ?_
    refine rg_done rfl ?_
    refine a_condK rfl rfl ?_
    refine a_rseq ?_
    refine rg_put (d := 6) (v := .d (.fl (.int .i64 12))) rfl (og rfl (op_assign rfl rfl rfl)) ?_
    refine rg_done rfl ?_
    refine a_ret ?_
    show ∃ ds, ResL _ _ _ ds ∧ RV.of ds = _
    refine ⟨[.fl (.int .i64 12)], (.cons (.tmp rfl (.d _)) .nil), ?_⟩
    have hu : itm d t sec = 12 := by
      unfold itm; simp only [h1, h9]; rfl
    rw [hu]; rfl
set_option maxHeartbeats 4000000 in
set_option maxRecDepth 100000 in
theorem withdraw26 (l : List Dp) (key : ByteArray) (hl : l.length ≤ 2000) (hb : ∀ q, q < l.length → (ix l q).proofs.length ≤ 2000) (hw : ∀ q, q < l.length → -9223372036854775808 ≤ (ix l q).time) : Ctr Try.prog 26 [.sl 5 (List.map eDp l), .fl (.string key)] (.tu [.sl 5 (List.map eDp (withdraw l key).1), .fl (.int .i64 (withdraw l key).2)]) := by
  refine ctr (n := 26) (rs := #[.tmp 4, .tmp 5]) (L := [(0, .d (.sl 5 (List.map eDp l))), (1, .d (.fl (.string key)))]) Try.func26 rfl rfl rfl rfl rfl (fun w0 U0 => ?_)
  refine a_rseq ?_
  refine rg_put (d := 4) (v := .d (.fl (.slice none 0 0))) rfl (og rfl (op_assign rfl rfl rfl)) ?_
  refine rg_put (d := 5) (v := .d (.fl (.int .i64 0))) rfl (og rfl (op_assign rfl rfl rfl)) ?_
  refine rg_done rfl ?_
  refine a_rseq ?_
  refine rg_put (d := 10) (v := .d (.sl 5 (List.map eDp l))) rfl (og rfl (op_move rfl rfl rfl)) ?_
  refine rg_put (d := 11) (v := .d (.fl (.string key))) rfl (og rfl (op_move rfl rfl rfl)) ?_
  refine rg_put (d := 12) (v := .tu [.fl (.int .i64 (dfind l key)), .fl (.int .i64 (fcode l key))]) rfl (og rfl (op_call rfl Try.func35 nm35 rfl (.cons rfl (.d _) (.cons rfl (.d _) .nil)) (find35 l key (by omega)) rfl)) ?_
  refine rg_put (d := 9) (v := .tu [.fl (.int .i64 (dfind l key)), .fl (.int .i64 (fcode l key))]) rfl (og rfl (op_move rfl rfl rfl)) ?_
  refine rg_put (d := 13) (v := .d (.fl (.int .i64 (dfind l key)))) rfl (og rfl (op_extract rfl rfl rfl rfl)) ?_
  refine rg_put (d := 14) (v := .d (.fl (.int .i64 (fcode l key)))) rfl (og rfl (op_extract rfl rfl rfl rfl)) ?_
  refine rg_put (d := 6) (v := .d (.fl (.int .i64 (dfind l key)))) rfl (og rfl (op_assign rfl rfl rfl)) ?_
  refine rg_put (d := 7) (v := .d (.fl (.int .i64 (fcode l key)))) rfl (og rfl (op_assign rfl rfl rfl)) ?_
  refine rg_done rfl ?_
  refine a_seq ?_
  refine a_rseq ?_
  refine rg_put (d := 15) (v := .d (.fl (.int .i64 (fcode l key)))) rfl (og rfl (op_move rfl rfl rfl)) ?_
  refine rg_put (d := 16) (v := .d (.fl (.bool (((fcode l key) != 0))))) rfl (og rfl (op_bin rfl rfl rfl (b_neq _ _ _ _) rfl)) ?_
  refine rg_done rfl ?_
  refine a_cond rfl (fun h1 => ?_) (fun h1 => ?_)
  · skip
    have h2 := t_bne h1
    refine a_rseq ?_
    refine rg_put (d := 17) (v := .d (.sl 5 (List.map eDp l))) rfl (og rfl (op_move rfl rfl rfl)) ?_
    refine rg_put (d := 18) (v := .d (.fl (.int .i64 (fcode l key)))) rfl (og rfl (op_move rfl rfl rfl)) ?_
    refine rg_put (d := 4) (v := .d (.sl 5 (List.map eDp l))) rfl (og rfl (op_assign rfl rfl rfl)) ?_
    refine rg_put (d := 5) (v := .d (.fl (.int .i64 (fcode l key)))) rfl (og rfl (op_assign rfl rfl rfl)) ?_
    refine rg_done rfl ?_
    refine a_ret ?_
    show ∃ ds, ResL _ _ _ ds ∧ RV.of ds = _
    refine ⟨[.sl 5 (List.map eDp l), .fl (.int .i64 (fcode l key))], (.cons (.tmp rfl (.d _)) (.cons (.tmp rfl (.d _)) .nil)), ?_⟩
    have hu : withdraw l key = (l, (fcode l key)) := by
      unfold withdraw; simp only [h1]; rfl
    rw [hu]; rfl
  · skip
    have h3 := f_bne h1
    refine a_skip ?_
    show A _ _ _ _ _ _ _
    refine a_rseq ?_
    obtain ⟨hi0, hst⟩ := fcode_ok (f_bne h1)
    have hi := dfind_lt l key
    have hbi := hb (dfind l key).toNat (by omega)
    have hwi := hw (dfind l key).toNat (by omega)
    refine rg_put (d := 19) (v := .d (.sl 5 (List.map eDp l))) rfl (og rfl (op_move rfl rfl rfl)) ?_
    refine rg_nam (d := 20) (v := .ow 101) (m := 101) (nw := [(101, .tr 40 5 (l.map oDp))]) rfl (og rfl (of_eff (op_callO 101 rfl Try.func34 nm34 rfl (.cons rfl (.d _) .nil) (fresh_dp l (by omega) (fun q h => hb q h)) rfl) rfl)) rfl ?_
    refine rg_put (d := 8) (v := .ow 101) rfl (og rfl (op_assign rfl rfl rfl)) ?_
    refine rg_done rfl ?_
    refine a_rseq ?_
    refine rg_put (d := 21) (v := .ow 101) rfl (og rfl (op_move rfl rfl rfl)) ?_
    refine rg_put (d := 22) (v := .d (.fl (.int .i64 (dfind l key)))) rfl (og rfl (op_move rfl rfl rfl)) ?_
    refine rg_put (d := 23) (v := .pe 101 5 (((dfind l key)).toNat) 0) rfl (og rfl (op_index_trI rfl Try.underlying22 ti40 rfl rfl rfl (by omega) (get_lt (map_at (by omega))) rfl)) ?_
    refine rg_put (d := 24) (v := .pe 101 5 (((dfind l key)).toNat) 3) rfl (og rfl (of_eff (op_field_pe rfl Try.underlying40 rfl ti3 rfl rfl rfl) rfl)) ?_
    refine rg_sto (nw := [(101, .tr 40 5 (((l.map oDp).set (((dfind l key)).toNat) [.dv (.fl (.string ((ix l (((dfind l key)).toNat)).key))), .dv (.fl (.int .i64 ((ix l (((dfind l key)).toNat)).time))), .dv (.fl (.int .i64 ((ix l (((dfind l key)).toNat)).cents))), .dv (.fl (.int .i64 4)), .ow 9 1 (List.map rS ((ix l (((dfind l key)).toNat)).proofs))])))]) rfl (og rfl (of_eff (op_store_pe rfl rfl ti3 rfl rfl (map_at (by omega)) rfl (.d rfl) rfl rfl rfl) rfl)) ?_
    refine rg_done rfl ?_
    refine a_rseq ?_
    refine rg_imp (imp_leakE 8 101 (rows' := List.map eDp (l.set (dfind l key).toNat (setS (ix l (dfind l key).toNat) 4))) rfl rfl (set1_ok (y := (setS (ix l (dfind l key).toNat) 4))) (set1_rd (y := (setS (ix l (dfind l key).toNat) 4)))) ?_
    refine rg_put (d := 25) (v := .d (.sl 5 (List.map eDp ((l.set (dfind l key).toNat (setS (ix l (dfind l key).toNat) 4)))))) rfl (og rfl (op_move rfl rfl rfl)) ?_
    refine rg_put (d := 4) (v := .d (.sl 5 (List.map eDp ((l.set (dfind l key).toNat (setS (ix l (dfind l key).toNat) 4)))))) rfl (og rfl (op_assign rfl rfl rfl)) ?_
    refine rg_put (d := 5) (v := .d (.fl (.int .i64 0))) rfl (og rfl (op_assign rfl rfl rfl)) ?_
    refine rg_done rfl ?_
    refine a_ret ?_
    show ∃ ds, ResL _ _ _ ds ∧ RV.of ds = _
    refine ⟨[.sl 5 (List.map eDp ((l.set (dfind l key).toNat (setS (ix l (dfind l key).toNat) 4)))), .fl (.int .i64 0)], (.cons (.tmp rfl (.d _)) (.cons (.tmp rfl (.d _)) .nil)), ?_⟩
    have hu : withdraw l key = ((l.set (dfind l key).toNat (setS (ix l (dfind l key).toNat) 4)), 0) := by
      unfold withdraw; simp only [h1]; rfl
    rw [hu]; rfl
set_option maxHeartbeats 4000000 in
set_option maxRecDepth 100000 in
theorem prove16 (l : List Dp) (key id : ByteArray) (t : Int) (hl : l.length ≤ 2000) (hb : ∀ q, q < l.length → (ix l q).proofs.length ≤ 2000) (hw : ∀ q, q < l.length → -9223372036854775808 ≤ (ix l q).time) : Ctr Try.prog 16 [.sl 5 (List.map eDp l), .fl (.string key), .fl (.string id), .fl (.int .i64 t)] (.tu [.sl 5 (List.map eDp (prove l key id t).1), .fl (.int .i64 (prove l key id t).2)]) := by
  refine ctr (n := 72) (rs := #[.tmp 8, .tmp 9]) (L := [(0, .d (.sl 5 (List.map eDp l))), (1, .d (.fl (.string key))), (2, .d (.fl (.string id))), (3, .d (.fl (.int .i64 t)))]) Try.func16 rfl rfl rfl rfl rfl (fun w0 U0 => ?_)
  refine a_rseq ?_
  refine rg_put (d := 8) (v := .d (.fl (.slice none 0 0))) rfl (og rfl (op_assign rfl rfl rfl)) ?_
  refine rg_put (d := 9) (v := .d (.fl (.int .i64 0))) rfl (og rfl (op_assign rfl rfl rfl)) ?_
  refine rg_done rfl ?_
  refine a_rseq ?_
  refine rg_put (d := 15) (v := .d (.sl 5 (List.map eDp l))) rfl (og rfl (op_move rfl rfl rfl)) ?_
  refine rg_put (d := 16) (v := .d (.fl (.string key))) rfl (og rfl (op_move rfl rfl rfl)) ?_
  refine rg_put (d := 17) (v := .tu [.fl (.int .i64 (dfind l key)), .fl (.int .i64 (fcode l key))]) rfl (og rfl (op_call rfl Try.func35 nm35 rfl (.cons rfl (.d _) (.cons rfl (.d _) .nil)) (find35 l key (by omega)) rfl)) ?_
  refine rg_put (d := 14) (v := .tu [.fl (.int .i64 (dfind l key)), .fl (.int .i64 (fcode l key))]) rfl (og rfl (op_move rfl rfl rfl)) ?_
  refine rg_put (d := 18) (v := .d (.fl (.int .i64 (dfind l key)))) rfl (og rfl (op_extract rfl rfl rfl rfl)) ?_
  refine rg_put (d := 19) (v := .d (.fl (.int .i64 (fcode l key)))) rfl (og rfl (op_extract rfl rfl rfl rfl)) ?_
  refine rg_put (d := 10) (v := .d (.fl (.int .i64 (dfind l key)))) rfl (og rfl (op_assign rfl rfl rfl)) ?_
  refine rg_put (d := 11) (v := .d (.fl (.int .i64 (fcode l key)))) rfl (og rfl (op_assign rfl rfl rfl)) ?_
  refine rg_done rfl ?_
  refine a_seq ?_
  refine a_rseq ?_
  refine rg_put (d := 20) (v := .d (.fl (.int .i64 (fcode l key)))) rfl (og rfl (op_move rfl rfl rfl)) ?_
  refine rg_put (d := 21) (v := .d (.fl (.bool (((fcode l key) != 0))))) rfl (og rfl (op_bin rfl rfl rfl (b_neq _ _ _ _) rfl)) ?_
  refine rg_done rfl ?_
  refine a_cond rfl (fun h1 => ?_) (fun h1 => ?_)
  · skip
    have h2 := t_bne h1
    refine a_rseq ?_
    refine rg_put (d := 22) (v := .d (.sl 5 (List.map eDp l))) rfl (og rfl (op_move rfl rfl rfl)) ?_
    refine rg_put (d := 23) (v := .d (.fl (.int .i64 (fcode l key)))) rfl (og rfl (op_move rfl rfl rfl)) ?_
    refine rg_put (d := 8) (v := .d (.sl 5 (List.map eDp l))) rfl (og rfl (op_assign rfl rfl rfl)) ?_
    refine rg_put (d := 9) (v := .d (.fl (.int .i64 (fcode l key)))) rfl (og rfl (op_assign rfl rfl rfl)) ?_
    refine rg_done rfl ?_
    refine a_ret ?_
    show ∃ ds, ResL _ _ _ ds ∧ RV.of ds = _
    refine ⟨[.sl 5 (List.map eDp l), .fl (.int .i64 (fcode l key))], (.cons (.tmp rfl (.d _)) (.cons (.tmp rfl (.d _)) .nil)), ?_⟩
    have hu : prove l key id t = (l, (fcode l key)) := by
      unfold prove; simp only [h1]; rfl
    rw [hu]; rfl
  · skip
    have h3 := f_bne h1
    refine a_skip ?_
    show A _ _ _ _ _ _ _
    refine a_seq ?_
    refine a_rseq ?_
    obtain ⟨hi0, hst⟩ := fcode_ok (f_bne h1)
    have hi := dfind_lt l key
    have hbi := hb (dfind l key).toNat (by omega)
    have hwi := hw (dfind l key).toNat (by omega)
    refine rg_put (d := 24) (v := .d (.sl 5 (List.map eDp l))) rfl (og rfl (op_move rfl rfl rfl)) ?_
    refine rg_put (d := 25) (v := .d (.fl (.int .i64 (dfind l key)))) rfl (og rfl (op_move rfl rfl rfl)) ?_
    refine rg_put (d := 26) (v := .el ((eDp ((ix l ((dfind l key)).toNat))))) rfl (og rfl (s_index rfl Try.underlying22 ti40 rfl rfl (by omega) (row_atI (by omega) (by omega)) rfl)) ?_
    refine rg_put (d := 27) (v := .d (.ag (eDp (((ix l ((dfind l key)).toNat)))))) rfl (og rfl (of_eff (s_load_els rfl Try.underlying40 rfl ti40 rfl rfl rfl) rfl)) ?_
    refine rg_put (d := 28) (v := .d (.fl (.int .i64 t))) rfl (og rfl (op_move rfl rfl rfl)) ?_
    refine rg_put (d := 29) (v := .d (.fl (.int .i64 ((itm (((ix l ((dfind l key)).toNat))) t 2592000))))) rfl (og rfl (op_call rfl Try.func36 nm36 rfl (.cons rfl (.d _) (.cons rfl (.d _) (.cons rfl (.d _) .nil))) (inTime36 (((ix l ((dfind l key)).toNat))) t 2592000 (by omega) (by omega) hwi) rfl)) ?_
    refine rg_put (d := 12) (v := .d (.fl (.int .i64 ((itm (((ix l ((dfind l key)).toNat))) t 2592000))))) rfl (og rfl (op_assign rfl rfl rfl)) ?_
    refine rg_done rfl ?_
    refine a_rseq ?_
    refine rg_put (d := 30) (v := .d (.fl (.int .i64 ((itm (((ix l ((dfind l key)).toNat))) t 2592000))))) rfl (og rfl (op_move rfl rfl rfl)) ?_
    refine rg_put (d := 31) (v := .d (.fl (.bool (((itm (((ix l ((dfind l key)).toNat))) t 2592000) != 0))))) rfl (og rfl (op_bin rfl rfl rfl (b_neq _ _ _ _) rfl)) ?_
    refine rg_done rfl ?_
    refine a_cond rfl (fun h4 => ?_) (fun h4 => ?_)
    · skip
      have h5 := t_bne h4
      refine a_rseq ?_
      refine rg_put (d := 32) (v := .d (.sl 5 (List.map eDp l))) rfl (og rfl (op_move rfl rfl rfl)) ?_
      refine rg_put (d := 33) (v := .d (.fl (.int .i64 ((itm (((ix l ((dfind l key)).toNat))) t 2592000))))) rfl (og rfl (op_move rfl rfl rfl)) ?_
      refine rg_put (d := 8) (v := .d (.sl 5 (List.map eDp l))) rfl (og rfl (op_assign rfl rfl rfl)) ?_
      refine rg_put (d := 9) (v := .d (.fl (.int .i64 ((itm (((ix l ((dfind l key)).toNat))) t 2592000))))) rfl (og rfl (op_assign rfl rfl rfl)) ?_
      refine rg_done rfl ?_
      refine a_ret ?_
      show ∃ ds, ResL _ _ _ ds ∧ RV.of ds = _
      refine ⟨[.sl 5 (List.map eDp l), .fl (.int .i64 ((itm (((ix l ((dfind l key)).toNat))) t 2592000)))], (.cons (.tmp rfl (.d _)) (.cons (.tmp rfl (.d _)) .nil)), ?_⟩
      have hu : prove l key id t = (l, (itm (((ix l ((dfind l key)).toNat))) t 2592000)) := by
        unfold prove; simp only [h1, h4]; rfl
      rw [hu]; rfl
    · skip
      have h6 := f_bne h4
      refine a_skip ?_
      show A _ _ _ _ _ _ _
      refine a_seq ?_
      refine a_block ?_
      refine a_rseq ?_
      refine rg_put (d := 35) (v := .d (.fl (.string id))) rfl (og rfl (op_move rfl rfl rfl)) ?_
      refine rg_put (d := 36) (v := .d (.fl (.bool (isR id)))) rfl (og rfl (op_call rfl Try.func19 nm19 rfl (.cons rfl (.d _) .nil) (isR19 id) rfl)) ?_
      refine rg_put (d := 37) (v := .d (.fl (.bool ((!(isR id)))))) rfl (og rfl (op_un rfl rfl (u_not _) rfl)) ?_
      refine rg_put (d := 34) (v := .d (.fl (.bool ((!(isR id)))))) rfl (og rfl (op_assign rfl rfl rfl)) ?_
      refine rg_done rfl ?_
      refine a_cond rfl (fun h7 => ?_) (fun h7 => ?_)
      · skip
        have h8 := t_not h7
        refine a_rseq ?_
        refine rg_put (d := 38) (v := .d (.sl 5 (List.map eDp l))) rfl (og rfl (op_move rfl rfl rfl)) ?_
        refine rg_put (d := 8) (v := .d (.sl 5 (List.map eDp l))) rfl (og rfl (op_assign rfl rfl rfl)) ?_
        refine rg_put (d := 9) (v := .d (.fl (.int .i64 5))) rfl (og rfl (op_assign rfl rfl rfl)) ?_
        refine rg_done rfl ?_
        refine a_ret ?_
        show ∃ ds, ResL _ _ _ ds ∧ RV.of ds = _
        refine ⟨[.sl 5 (List.map eDp l), .fl (.int .i64 5)], (.cons (.tmp rfl (.d _)) (.cons (.tmp rfl (.d _)) .nil)), ?_⟩
        have hu : prove l key id t = (l, 5) := by
          unfold prove; simp only [h1, h4, h7, h8]; rfl
        rw [hu]; rfl
      · skip
        have h9 := f_not h7
        refine a_rseq ?_
        refine rg_put (d := 40) (v := .d (.sl 5 (List.map eDp l))) rfl (og rfl (op_move rfl rfl rfl)) ?_
        refine rg_put (d := 41) (v := .d (.fl (.int .i64 (dfind l key)))) rfl (og rfl (op_move rfl rfl rfl)) ?_
        refine rg_put (d := 42) (v := .el ((eDp ((ix l ((dfind l key)).toNat))))) rfl (og rfl (s_index rfl Try.underlying22 ti40 rfl rfl (by omega) (row_atI (by omega) (by omega)) rfl)) ?_
        refine rg_put (d := 43) (v := .el ((List.drop 4 ((eDp ((ix l ((dfind l key)).toNat))))))) rfl (og rfl (of_eff (s_field_el rfl Try.underlying40 rfl ti38 rfl rfl rfl) rfl)) ?_
        refine rg_put (d := 44) (v := .d (.sl 1 (List.map rS (((ix l ((dfind l key)).toNat)).proofs)))) rfl (og rfl (op_load_el rfl Try.underlying38 rfl rfl rfl rfl)) ?_
        refine rg_put (d := 45) (v := .d (.fl (.string id))) rfl (og rfl (op_move rfl rfl rfl)) ?_
        refine rg_put (d := 46) (v := .d (.fl (.bool ((am id (((ix l ((dfind l key)).toNat)).proofs)))))) rfl (og rfl (op_call rfl Try.func22 nm22 rfl (.cons rfl (.d _) (.cons rfl (.d _) .nil)) (str_am (((ix l ((dfind l key)).toNat)).proofs) id (by omega)) rfl)) ?_
        refine rg_put (d := 39) (v := .d (.fl (.bool ((am id (((ix l ((dfind l key)).toNat)).proofs)))))) rfl (og rfl (op_assign rfl rfl rfl)) ?_
        refine rg_done rfl ?_
        refine a_cond rfl (fun h10 => ?_) (fun h10 => ?_)
        · skip
          refine a_rseq ?_
          refine rg_put (d := 47) (v := .d (.sl 5 (List.map eDp l))) rfl (og rfl (op_move rfl rfl rfl)) ?_
          refine rg_put (d := 8) (v := .d (.sl 5 (List.map eDp l))) rfl (og rfl (op_assign rfl rfl rfl)) ?_
          refine rg_put (d := 9) (v := .d (.fl (.int .i64 9))) rfl (og rfl (op_assign rfl rfl rfl)) ?_
          refine rg_done rfl ?_
          refine a_ret ?_
          show ∃ ds, ResL _ _ _ ds ∧ RV.of ds = _
          refine ⟨[.sl 5 (List.map eDp l), .fl (.int .i64 9)], (.cons (.tmp rfl (.d _)) (.cons (.tmp rfl (.d _)) .nil)), ?_⟩
          have hu : prove l key id t = (l, 9) := by
            unfold prove; simp only [h1, h4, h7, h9, h10]; rfl
          rw [hu]; rfl
        · skip
          refine a_rseq ?_
          refine rg_put (d := 49) (v := .d (.sl 5 (List.map eDp l))) rfl (og rfl (op_move rfl rfl rfl)) ?_
          refine rg_put (d := 50) (v := .d (.fl (.int .i64 (dfind l key)))) rfl (og rfl (op_move rfl rfl rfl)) ?_
          refine rg_put (d := 51) (v := .el ((eDp ((ix l ((dfind l key)).toNat))))) rfl (og rfl (s_index rfl Try.underlying22 ti40 rfl rfl (by omega) (row_atI (by omega) (by omega)) rfl)) ?_
          refine rg_put (d := 52) (v := .el ((List.drop 4 ((eDp ((ix l ((dfind l key)).toNat))))))) rfl (og rfl (of_eff (s_field_el rfl Try.underlying40 rfl ti38 rfl rfl rfl) rfl)) ?_
          refine rg_put (d := 53) (v := .d (.sl 1 (List.map rS (((ix l ((dfind l key)).toNat)).proofs)))) rfl (og rfl (op_load_el rfl Try.underlying38 rfl rfl rfl rfl)) ?_
          refine rg_put (d := 54) (v := .d (.fl (.int .i64 (((((ix l ((dfind l key)).toNat)).proofs).length : Int))))) rfl (og rfl (s_len rfl Try.underlying38 rfl rfl)) ?_
          refine rg_put (d := 55) (v := .d (.fl (.bool ((decide (16 ≤ ((((ix l ((dfind l key)).toNat)).proofs).length : Int))))))) rfl (og rfl (op_bin rfl rfl rfl (b_geq _ _ _ _) rfl)) ?_
          refine rg_put (d := 48) (v := .d (.fl (.bool ((decide (16 ≤ ((((ix l ((dfind l key)).toNat)).proofs).length : Int))))))) rfl (og rfl (op_assign rfl rfl rfl)) ?_
          refine rg_done rfl ?_
          refine a_cond rfl (fun h11 => ?_) (fun h11 => ?_)
          · skip
            have h12 := t_dec h11
            refine a_rseq ?_
            refine rg_put (d := 56) (v := .d (.sl 5 (List.map eDp l))) rfl (og rfl (op_move rfl rfl rfl)) ?_
            refine rg_put (d := 8) (v := .d (.sl 5 (List.map eDp l))) rfl (og rfl (op_assign rfl rfl rfl)) ?_
            refine rg_put (d := 9) (v := .d (.fl (.int .i64 3))) rfl (og rfl (op_assign rfl rfl rfl)) ?_
            refine rg_done rfl ?_
            refine a_ret ?_
            show ∃ ds, ResL _ _ _ ds ∧ RV.of ds = _
            refine ⟨[.sl 5 (List.map eDp l), .fl (.int .i64 3)], (.cons (.tmp rfl (.d _)) (.cons (.tmp rfl (.d _)) .nil)), ?_⟩
            have hu : prove l key id t = (l, 3) := by
              unfold prove; simp only [h1, h4, h7, h9, h10, h11]; rfl
            rw [hu]; rfl
          · skip
            have h13 := f_dec h11
            refine a_skip ?_
            show A _ _ _ _ _ _ _
            refine a_rseq ?_
            refine rg_put (d := 57) (v := .d (.sl 5 (List.map eDp l))) rfl (og rfl (op_move rfl rfl rfl)) ?_
            refine rg_nam (d := 58) (v := .ow 101) (m := 101) (nw := [(101, .tr 40 5 (l.map oDp))]) rfl (og rfl (of_eff (op_callO 101 rfl Try.func34 nm34 rfl (.cons rfl (.d _) .nil) (fresh_dp l (by omega) (fun q h => hb q h)) rfl) rfl)) rfl ?_
            refine rg_put (d := 13) (v := .ow 101) rfl (og rfl (op_assign rfl rfl rfl)) ?_
            refine rg_done rfl ?_
            refine a_rseq ?_
            refine rg_put (d := 59) (v := .ow 101) rfl (og rfl (op_move rfl rfl rfl)) ?_
            refine rg_put (d := 60) (v := .d (.fl (.int .i64 (dfind l key)))) rfl (og rfl (op_move rfl rfl rfl)) ?_
            refine rg_put (d := 61) (v := .ow 101) rfl (og rfl (op_move rfl rfl rfl)) ?_
            refine rg_put (d := 62) (v := .d (.fl (.int .i64 (dfind l key)))) rfl (og rfl (op_move rfl rfl rfl)) ?_
            refine rg_put (d := 63) (v := .pe 101 5 (((dfind l key)).toNat) 0) rfl (og rfl (op_index_trI rfl Try.underlying22 ti40 rfl rfl rfl (by omega) (get_lt (map_at (by omega))) rfl)) ?_
            refine rg_put (d := 64) (v := .pe 101 5 (((dfind l key)).toNat) 4) rfl (og rfl (of_eff (op_field_pe rfl Try.underlying40 rfl ti38 rfl rfl rfl) rfl)) ?_
            refine rg_nam (d := 65) (v := .ow 102) (m := 102) (nw := [(102, .tr 9 1 (tD rS ((ix l (((dfind l key)).toNat)).proofs))), (101, .tr 40 5 (((l.map oDp).set (((dfind l key)).toNat) [.dv (.fl (.string ((ix l (((dfind l key)).toNat)).key))), .dv (.fl (.int .i64 ((ix l (((dfind l key)).toNat)).time))), .dv (.fl (.int .i64 ((ix l (((dfind l key)).toNat)).cents))), .dv (.fl (.int .i64 ((ix l (((dfind l key)).toNat)).state))), .un])))]) rfl (og rfl (of_eff (op_take 102 rfl Try.underlying38 rfl rfl rfl (map_at (by omega)) rfl rfl rfl) rfl)) rfl ?_
            refine rg_put (d := 66) (v := .d (.fl (.string id))) rfl (og rfl (op_move rfl rfl rfl)) ?_
            refine rg_put (d := 67) (v := .d (.sl 1 (List.map rS [id]))) rfl (og rfl (of_eff (op_slices rfl Try.underlying38 ti9 rfl rfl rfl (by kernel_rfl) (xs := [.fl (.string id)]) rfl rfl (.cons rfl rfl (.d _) rfl rfl rfl .nil) rfl) rfl)) ?_
            refine rg_nam (d := 68) (v := .ow 103) (m := 103) (nw := [(103, .tr 9 1 (tD rS (((ix l (((dfind l key)).toNat)).proofs ++ [id])))), (102, .no)]) rfl (og rfl (of_eff (s_append_td 103 rfl Try.underlying38 ti9 rfl rfl rfl rfl rfl (.d _) (by simp only [List.length_cons, List.length_nil]; omega) rfl) rfl)) rfl ?_
            refine rg_put (d := 69) (v := .pe 101 5 (((dfind l key)).toNat) 0) rfl (og rfl (op_index_trI rfl Try.underlying22 ti40 rfl rfl rfl (by omega) (get_lt (set_get (map_at (by omega)))) rfl)) ?_
            refine rg_put (d := 70) (v := .pe 101 5 (((dfind l key)).toNat) 4) rfl (og rfl (of_eff (op_field_pe rfl Try.underlying40 rfl ti38 rfl rfl rfl) rfl)) ?_
            refine rg_sto (nw := [(101, .tr 40 5 ((((((l.map oDp).set (((dfind l key)).toNat) [.dv (.fl (.string ((ix l (((dfind l key)).toNat)).key))), .dv (.fl (.int .i64 ((ix l (((dfind l key)).toNat)).time))), .dv (.fl (.int .i64 ((ix l (((dfind l key)).toNat)).cents))), .dv (.fl (.int .i64 ((ix l (((dfind l key)).toNat)).state))), .un]))).set (((dfind l key)).toNat) [.dv (.fl (.string ((ix l (((dfind l key)).toNat)).key))), .dv (.fl (.int .i64 ((ix l (((dfind l key)).toNat)).time))), .dv (.fl (.int .i64 ((ix l (((dfind l key)).toNat)).cents))), .dv (.fl (.int .i64 ((ix l (((dfind l key)).toNat)).state))), .ow 9 1 (List.map rS (((ix l (((dfind l key)).toNat)).proofs ++ [id])))]))), (103, .no)]) rfl (og rfl (of_eff (op_store_pe rfl rfl ti38 rfl rfl (set_get (map_at (by omega))) rfl (.tr rfl) rfl rfl rfl) rfl)) ?_
            refine rg_done rfl ?_
            refine a_rseq ?_
            refine rg_imp (imp_leakE 13 101 (rows' := List.map eDp (l.set (dfind l key).toNat (addP (ix l (dfind l key).toNat) id))) rfl rfl (set2_ok (y := (addP (ix l (dfind l key).toNat) id))) (set2_rd (y := (addP (ix l (dfind l key).toNat) id)))) ?_
            refine rg_put (d := 71) (v := .d (.sl 5 (List.map eDp ((l.set (dfind l key).toNat (addP (ix l (dfind l key).toNat) id)))))) rfl (og rfl (op_move rfl rfl rfl)) ?_
            refine rg_put (d := 8) (v := .d (.sl 5 (List.map eDp ((l.set (dfind l key).toNat (addP (ix l (dfind l key).toNat) id)))))) rfl (og rfl (op_assign rfl rfl rfl)) ?_
            refine rg_put (d := 9) (v := .d (.fl (.int .i64 0))) rfl (og rfl (op_assign rfl rfl rfl)) ?_
            refine rg_done rfl ?_
            refine a_ret ?_
            show ∃ ds, ResL _ _ _ ds ∧ RV.of ds = _
            refine ⟨[.sl 5 (List.map eDp ((l.set (dfind l key).toNat (addP (ix l (dfind l key).toNat) id)))), .fl (.int .i64 0)], (.cons (.tmp rfl (.d _)) (.cons (.tmp rfl (.d _)) .nil)), ?_⟩
            have hu : prove l key id t = ((l.set (dfind l key).toNat (addP (ix l (dfind l key).toNat) id)), 0) := by
              unfold prove; simp only [h1, h4, h7, h9, h10, h11]; rfl
            rw [hu]; rfl
end Go.Proofs.Ytocjbombpggmeaa.Wk
