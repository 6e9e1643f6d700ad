/- The hours of a zone, and whether one holds. Conditions: as each theorem names them. -/
import Derived.Test.YtniefocnfcaebaaAvN
import Derived.Test.YtniefocnfcaebaaWw
set_option linter.unusedSimpArgs false
set_option linter.unusedVariables false
namespace Go.Proofs.Ytniefocnfcaebaa.Wk
open Go Go.RowKit Go.Proofs.Ytniefocnfcaebaa.Av
theorem ix_eq {α : Type} [Inhabited α] {l : List α} {i : Nat} (h : i < l.length) : l[i] = ix l i := by
  have := ix_get h
  rw [List.getElem?_eq_getElem h] at this
  injection this
theorem ix_mem {α : Type} [Inhabited α] {l : List α} {k : Nat} (h : k < l.length) : ix l k ∈ l := by rw [← ix_eq h]; exact List.getElem_mem h
theorem mem_ix {α : Type} [Inhabited α] {l : List α} {x : α} (h : x ∈ l) : ∃ k, k < l.length ∧ ix l k = x := by
  obtain ⟨j, hj, he⟩ := List.mem_iff_getElem.1 h
  exact ⟨j, hj, by rw [← ix_eq hj]; exact he⟩
theorem any_no {α : Type} [Inhabited α] {p : α → Bool} {l : List α} (h : ∀ q, q < l.length → p (ix l q) = false) : l.any p = false := by
  rw [List.any_eq_false]
  intro x hx
  obtain ⟨k, hk, he⟩ := mem_ix hx
  rw [← he, h k hk]; simp
def vws (l : List Wd) : List Wd := l.filter vW
def hrs (z : Zn) : List Wd := if z.hours.length = 0 then [⟨127, 0, 1440⟩] else z.hours
theorem vws_len {l : List Wd} (k : Nat) (h : k < l.length) : (vws (l.take (k + 1))) = if vW (ix l k) = true then vws (l.take k) ++ [ix l k] else vws (l.take k) := by
  unfold vws
  rw [take_ix h, List.filter_append]
  by_cases hv : vW (ix l k) = true
  · rw [if_pos hv]; simp [hv]
  · rw [if_neg hv]; simp [hv]
theorem vws_all (l : List Wd) : vws (l.take l.length) = vws l := by rw [List.take_length]
theorem vws_pre {l : List Wd} (k : Nat) : ∃ r, vws l = vws (l.take k) ++ r := ⟨vws (l.drop k), by unfold vws; rw [← List.filter_append, List.take_append_drop]⟩
theorem vws_get {l : List Wd} {k : Nat} (h : k < l.length) (hv : vW (ix l k) = true) : (vws l)[(vws (l.take k)).length]? = some (ix l k) := by
  obtain ⟨r, hr⟩ := vws_pre (l := l) (k + 1)
  rw [hr, vws_len k h, if_pos hv, List.getElem?_append_left (by simp), List.getElem?_append_right (by simp)]
  simp
theorem vws_at {β : Type} {g : Wd → β} {l : List Wd} {k : Nat} (h : k < l.length) (hv : vW (ix l k) = true) : (List.map g (vws l))[(vws (l.take k)).length]? = some (g (ix l k)) := by
  rw [List.getElem?_map, vws_get h hv]; rfl
theorem vws_le (l : List Wd) : (vws l).length ≤ l.length := List.length_filter_le _ _
theorem hrs_le (z : Zn) (h : z.hours.length ≤ 60) : (hrs z).length ≤ 60 := by
  unfold hrs
  split
  · simp
  · exact h
noncomputable def opn (z : Zn) (t : Int) : Bool := (vws (hrs z)).any fun w => inW w t
theorem opn_t {z : Zn} {t : Int} {k : Nat} (hk : k < (vws (hrs z)).length) (h : inW (ix (vws (hrs z)) k) t = true) : opn z t = true := by
  unfold opn
  rw [List.any_eq_true]
  exact ⟨_, ix_mem hk, h⟩
theorem opn_f {z : Zn} {t : Int} (h : ∀ i, i < (vws (hrs z)).length → inW (ix (vws (hrs z)) i) t = false) : opn z t = false := any_no h
theorem opn_at {z : Zn} {t : Int} (h : opn z t = false) {i : Nat} (hi : i < (vws (hrs z)).length) : inW (ix (vws (hrs z)) i) t = false := by
  unfold opn at h
  rw [List.any_eq_false] at h
  simpa using h _ (ix_mem hi)

set_option maxHeartbeats 4000000 in
set_option maxRecDepth 100000 in
theorem seqH (l : List Wd) (hl : l.length ≤ 60) : SeqD Try.prog 37 [.el [.sl 3 (List.map eWd l)]] (List.map (fun x => .ag (eWd x)) (vws l)) := by
  refine seqD (n := 20) (L := [(1, .el [.sl 3 (List.map eWd l)])]) Try.func37 rfl rfl rfl rfl rfl (fun w0 U0 stop lq Z J H V Q hw0 hI hP => ?_)
  refine a_rseq ?_
  refine rg_put (d := 5) (v := .d (.sl 3 (List.map eWd l))) rfl (og rfl (op_load_el rfl Try.underlying22 rfl rfl rfl rfl)) ?_
  refine rg_put (d := 6) (v := .d (.fl (.int .i64 (l.length : Int)))) rfl (og rfl (s_len rfl Try.underlying22 rfl rfl)) ?_
  refine rg_put (d := 7) (v := .d (.fl (.int .i64 0))) rfl (og rfl (op_move rfl rfl rfl)) ?_
  refine rg_done rfl ?_
  refine a_block ?_
  refine a_loop (ι := Nat × World × (Nat → Nat) × (Nat → Prop)) (fun g => SS [(0, .d (.fl (.func (.yield lq) #[] #[]))), (1, .el [.sl 3 (List.map eWd l)]), (5, .d (.sl 3 (List.map eWd l))), (6, .d (.fl (.int .i64 (l.length : Int)))), (7, .d (.fl (.int .i64 (g.1 : Int))))] [(0, .pin g.2.1 g.2.2.1 g.2.2.2)]) (fun g => g.1 ≤ l.length ∧ ItP Z J w0 (vws (l.take g.1)).length g.2.1 g.2.2.1 g.2.2.2 ∧ ∀ i, i < (vws (l.take g.1)).length → stop i = false) (fun g => l.length - g.1) (0, H, V, Q) (⟨by (show 0 ≤ l.length); omega, hP, fun i hi => absurd hi (by simp [vws])⟩) (imp_forget rfl ⟨rfl, rfl, rfl, rfl, (by first | rfl | exact ci (by omega) | exact ci (by simp) | exact cd (by simp) | simp), trivial⟩ ⟨rfl, trivial⟩) (fun g hok => ?_)
  obtain ⟨hk, hgP, hgs⟩ := hok
  refine a_rseq ?_
  refine rg_put (d := 8) (v := .d (.fl (.bool ((decide ((g.1 : Int) < (l.length : Int))))))) rfl (og rfl (op_bin rfl rfl rfl (b_lss _ _ _ _) rfl)) ?_
  refine rg_done rfl ?_
  refine a_seq ?_
  refine a_cond rfl (fun h1 => ?_) (fun h1 => ?_)
  · skip
    have h2 := t_dec h1
    refine a_skip ?_
    show A _ _ _ _ _ _ _
    refine a_seq ?_
    refine a_block ?_
    refine a_rseq ?_
    refine rg_put (d := 9) (v := .el ((eWd (ix l g.1)))) rfl (og rfl (s_index rfl Try.underlying22 ti48 rfl rfl (by omega) (row_at (by omega)) rfl)) ?_
    refine rg_put (d := 10) (v := .d (.ag (eWd (ix l g.1)))) rfl (og rfl (of_eff (s_load_els rfl Try.underlying48 rfl ti48 rfl rfl rfl) rfl)) ?_
    refine rg_nam (d := 4) (v := .pt 101 0) (m := 101) (nw := [(101, .bx 48 [.fl (.int .i64 0), .fl (.int .i64 0), .fl (.int .i64 0)])]) rfl (og rfl (of_eff (s_alloc 101 rfl ti48 (by kernel_rfl) rfl) rfl)) rfl ?_
    refine rg_sto (nw := [(101, .bx 48 ((eWd (ix l g.1))))]) rfl (og rfl (of_eff (s_store rfl rfl ti48 rfl rfl rfl rfl rfl rfl) rfl)) ?_
    refine rg_done rfl ?_
    refine a_rseqI ?_
    refine ri_put (d := 11) (v := .d (.ag (eWd (ix l g.1)))) rfl (og rfl (of_eff (s_load_pts rfl Try.underlying48 rfl ti48 rfl rfl rfl rfl) rfl)) ?_
    refine ri_put (d := 12) (v := .d (.fl (.bool ((vW (ix l g.1)))))) rfl (og rfl (op_call rfl Try.func33 nm33 rfl (.cons rfl (.d _) .nil) (vW28 (ix l g.1)) rfl)) ?_
    refine ri_put (d := 13) (v := .d (.fl (.bool ((vW (ix l g.1)))))) rfl (og rfl (op_move rfl rfl rfl)) ?_
    rcases fot ((vW (ix l g.1))) with h3 | h3
    · skip
      refine ri_put (d := 14) (v := .d (.fl undef)) rfl (on rfl rfl rfl h3) ?_
      refine ri_put (d := 15) (v := .d (.fl undef)) rfl (on rfl rfl rfl h3) ?_
      refine ri_put (d := 16) (v := .d (.fl undef)) rfl (on rfl rfl rfl h3) ?_
      refine ri_of ?_
      show RG _ _ _ _ _ _ (SS _ _) _
      refine rg_put (d := 17) (v := .d (.fl undef)) rfl (on rfl rfl rfl h3) ?_
      refine rg_put (d := 18) (v := .d (.fl (.bool false))) rfl (og rfl (op_pick rfl rfl (by rw [h3]; rfl) rfl)) ?_
      refine rg_done rfl ?_
      refine a_condF rfl rfl ?_
      refine a_skip ?_
      show A _ _ _ _ _ _ _
      refine a_region ?_
      refine rg_put (d := 19) (v := .d (.fl (.int .i64 (((g.1 : Int) + 1))))) rfl (og rfl (op_bin rfl rfl rfl (fun x y w => b_add64 _ _ _ x y w (by omega)) rfl)) ?_
      refine rg_put (d := 7) (v := .d (.fl (.int .i64 (((g.1 : Int) + 1))))) rfl (og rfl (op_move rfl rfl rfl)) ?_
      refine rg_done rfl ?_
      show ∃ i, _ ∧ _ ∧ Imp _ _ _ _ _
      refine ⟨(g.1 + 1, g.2.1, g.2.2.1, g.2.2.2), ⟨by (show g.1 + 1 ≤ l.length); omega, by (show ItP _ _ _ (vws (l.take (g.1 + 1))).length _ _ _; rw [vws_len g.1 (by omega), if_neg (by rw [h3]; decide)]; exact hgP), fun i hi => by (have hi2 : i < (vws (l.take (g.1 + 1))).length := hi; rw [vws_len g.1 (by omega), if_neg (by rw [h3]; decide)] at hi2; exact hgs i hi2)⟩, (by (show l.length - (g.1 + 1) < l.length - g.1); omega), imp_forget rfl ⟨rfl, rfl, rfl, rfl, (by first | rfl | exact ci (by omega) | exact ci (by simp) | exact cd (by simp) | simp), trivial⟩ ⟨rfl, trivial⟩⟩
    · skip
      refine ri_put (d := 14) (v := .d (.fl (.func (.yield lq) #[] #[]))) rfl (oy rfl rfl rfl h3 (op_move rfl rfl rfl)) ?_
      refine ri_put (d := 15) (v := .d (.ag (eWd (ix l g.1)))) rfl (oy rfl rfl rfl h3 (of_eff (s_load_pts rfl Try.underlying48 rfl ti48 rfl rfl rfl rfl) rfl)) ?_
      refine ri_yield hI (q := (vws (l.take g.1)).length) (x := .ag (eWd (ix l g.1))) rfl rfl rfl rfl (.inr ⟨_, _, rfl, rfl, (by show AV.d (.fl (.bool ((vW (ix l g.1))))) = _; rw [h3])⟩) rfl rfl (vws_at (g := fun x => DV.ag (eWd x)) (by omega) h3) hgs rfl hgP hw0 rfl (fun H1 V1 Q1 hP1 => ?_)
      refine ri_of ?_
      show RG _ _ _ _ _ _ (SS _ _) _
      refine rg_put (d := 17) (v := .d (.fl (.bool ((!((!stop ((vws (l.take g.1)).length)))))))) rfl (oy rfl rfl rfl h3 (op_un rfl rfl (u_not _) rfl)) ?_
      refine rg_put (d := 18) (v := .d (.fl (.bool ((!((!stop ((vws (l.take g.1)).length)))))))) rfl (og rfl (op_pick rfl rfl (by rw [h3]; rfl) rfl)) ?_
      refine rg_done rfl ?_
      refine a_cond rfl (fun h4 => ?_) (fun h4 => ?_)
      · skip
        have h5 := t_not h4
        have h6 := f_not h5
        refine a_ret ?_
        show ∃ k H V Q, _ ∧ _ ∧ _
        exact ⟨(vws (l.take g.1)).length + 1, _, _, _, rfl, hP1, .inr ⟨(vws (l.take g.1)).length, rfl, by rw [List.length_map]; obtain ⟨h1, _⟩ := List.getElem?_eq_some_iff.1 (vws_get (l := l) (k := g.1) (by omega) h3); exact h1, h6, hgs⟩⟩
      · skip
        have h7 := f_not h4
        have h8 := t_not h7
        refine a_skip ?_
        show A _ _ _ _ _ _ _
        refine a_region ?_
        refine rg_put (d := 19) (v := .d (.fl (.int .i64 (((g.1 : Int) + 1))))) rfl (og rfl (op_bin rfl rfl rfl (fun x y w => b_add64 _ _ _ x y w (by omega)) rfl)) ?_
        refine rg_put (d := 7) (v := .d (.fl (.int .i64 (((g.1 : Int) + 1))))) rfl (og rfl (op_move rfl rfl rfl)) ?_
        refine rg_done rfl ?_
        show ∃ i, _ ∧ _ ∧ Imp _ _ _ _ _
        refine ⟨(g.1 + 1, H1, V1, Q1), ⟨by (show g.1 + 1 ≤ l.length); omega, by (show ItP _ _ _ (vws (l.take (g.1 + 1))).length _ _ _; rw [vws_len g.1 (by omega), if_pos h3, List.length_append]; exact hP1), fun i hi => by (have hi2 : i < (vws (l.take (g.1 + 1))).length := hi; rw [vws_len g.1 (by omega), if_pos h3, List.length_append] at hi2; rcases Nat.lt_or_ge i (vws (l.take g.1)).length with hlt | hge; exact hgs i hlt; rw [show i = (vws (l.take g.1)).length by simp at hi2; omega]; exact h8)⟩, (by (show l.length - (g.1 + 1) < l.length - g.1); omega), imp_forget rfl ⟨rfl, rfl, rfl, rfl, (by first | rfl | exact ci (by omega) | exact ci (by simp) | exact cd (by simp) | simp), trivial⟩ ⟨rfl, trivial⟩⟩
  · skip
    have h9 := f_dec h1
    refine a_exit ?_
    show ∃ k H V Q, _ ∧ _ ∧ _
    exact ⟨(vws (l.take g.1)).length, _, _, _, rfl, hgP, .inl ⟨by rw [List.length_map, show g.1 = l.length by omega, vws_all], hgs⟩⟩
set_option maxHeartbeats 4000000 in
set_option maxRecDepth 100000 in
theorem hours24 (z : Zn) (hl : z.hours.length ≤ 60) : Ctr Try.prog 24 [.ag (eZn z)] (.d (.fn 37 [.el [.sl 3 (List.map eWd (hrs z))]])) := by
  refine ctr (n := 12) (rs := #[.tmp 2]) (L := [(0, .d (.ag (eZn z)))]) Try.func24 rfl rfl rfl rfl rfl (fun w0 U0 => ?_)
  refine a_rseq ?_
  refine rg_nam (d := 1) (v := .pt 101 0) (m := 101) (nw := [(101, .bx 25 (eZn z))]) rfl (og rfl (of_eff (op_box 101 rfl rfl rfl rfl) rfl)) rfl ?_
  refine rg_put (d := 2) (v := .d (.fl (.nilFunc))) rfl (og rfl (op_assign rfl rfl rfl)) ?_
  refine rg_done rfl ?_
  refine a_rseq ?_
  refine rg_put (d := 4) (v := .pt 101 1) rfl (og rfl (of_eff (s_field_pt rfl Try.underlying25 rfl ti22 rfl rfl rfl) rfl)) ?_
  refine rg_put (d := 5) (v := .d (.sl 3 (List.map eWd z.hours))) rfl (og rfl (op_load_pt rfl Try.underlying22 rfl rfl rfl rfl rfl)) ?_
  refine rg_nam (d := 3) (v := .pt 102 0) (m := 102) (nw := [(102, .bx 22 [.fl (.slice none 0 0)])]) rfl (og rfl (of_eff (s_alloc 102 rfl ti22 (by kernel_rfl) rfl) rfl)) rfl ?_
  refine rg_sto (nw := [(102, .bx 22 [.sl 3 (List.map eWd z.hours)])]) rfl (og rfl (of_eff (s_store rfl rfl ti22 rfl rfl rfl rfl rfl rfl) rfl)) ?_
  refine rg_done rfl ?_
  refine a_seq ?_
  refine a_rseq ?_
  refine rg_put (d := 6) (v := .d (.sl 3 (List.map eWd z.hours))) rfl (og rfl (op_load_pt rfl Try.underlying22 rfl rfl rfl rfl rfl)) ?_
  refine rg_put (d := 7) (v := .d (.fl (.int .i64 (z.hours.length : Int)))) rfl (og rfl (s_len rfl Try.underlying22 rfl rfl)) ?_
  refine rg_put (d := 8) (v := .d (.fl (.bool (((z.hours.length : Int) == 0))))) rfl (og rfl (op_bin rfl rfl rfl (b_eql _ _ _ _) rfl)) ?_
  refine rg_done rfl ?_
  refine a_cond rfl (fun h1 => ?_) (fun h1 => ?_)
  · skip
    have h2 := t_beq h1
    refine a_region ?_
    refine rg_put (d := 9) (v := .d (.ag (eWd (Wd.mk 127 0 1440)))) rfl (og rfl (of_eff (op_build rfl Try.underlying48 ti48 rfl (by kernel_rfl) (by kernel_rfl) (pl := #[(0, 1), (1, 1), (2, 1)]) (by kernel_rfl) (.cons rfl rfl (.d _) rfl rfl rfl (.cons rfl rfl (.d _) rfl rfl rfl (.cons rfl rfl (.d _) rfl rfl rfl .nil))) rfl) rfl)) ?_
    refine rg_put (d := 10) (v := .d (.sl 3 (List.map eWd [(Wd.mk 127 0 1440)]))) rfl (og rfl (of_eff (op_slices rfl Try.underlying22 ti48 rfl rfl rfl (by kernel_rfl) (xs := [.ag (eWd (Wd.mk 127 0 1440))]) rfl rfl (.cons rfl rfl (.d _) rfl rfl rfl .nil) rfl) rfl)) ?_
    refine rg_sto (nw := [(102, .bx 22 ([.sl 3 (List.map eWd [(Wd.mk 127 0 1440)])]))]) rfl (og rfl (of_eff (s_store rfl rfl ti22 rfl rfl rfl rfl rfl rfl) rfl)) ?_
    refine rg_done rfl ?_
    show A _ _ _ _ _ _ _
    refine a_rseq ?_
    refine rg_imp (imp_freeze 3 102 rfl rfl) ?_
    refine rg_put (d := 11) (v := .d (.fn 37 [.el ([.sl 3 (List.map eWd [(Wd.mk 127 0 1440)])])])) rfl (og rfl (op_mkfn rfl (.cons rfl .nil) rfl)) ?_
    refine rg_put (d := 2) (v := .d (.fn 37 [.el ([.sl 3 (List.map eWd [(Wd.mk 127 0 1440)])])])) rfl (og rfl (op_assign rfl rfl rfl)) ?_
    refine rg_done rfl ?_
    refine a_ret ?_
    show ∃ ds, ResL _ _ _ ds ∧ RV.of ds = _
    refine ⟨[.fn 37 [.el ([.sl 3 (List.map eWd [(Wd.mk 127 0 1440)])])]], (.cons (.tmp rfl (.d _)) .nil), ?_⟩
    unfold hrs; rw [if_pos (by omega)]; rfl
  · skip
    have h3 := f_beq h1
    refine a_skip ?_
    show A _ _ _ _ _ _ _
    refine a_rseq ?_
    refine rg_imp (imp_freeze 3 102 rfl rfl) ?_
    refine rg_put (d := 11) (v := .d (.fn 37 [.el [.sl 3 (List.map eWd z.hours)]])) rfl (og rfl (op_mkfn rfl (.cons rfl .nil) rfl)) ?_
    refine rg_put (d := 2) (v := .d (.fn 37 [.el [.sl 3 (List.map eWd z.hours)]])) rfl (og rfl (op_assign rfl rfl rfl)) ?_
    refine rg_done rfl ?_
    refine a_ret ?_
    show ∃ ds, ResL _ _ _ ds ∧ RV.of ds = _
    refine ⟨[.fn 37 [.el [.sl 3 (List.map eWd z.hours)]]], (.cons (.tmp rfl (.d _)) .nil), ?_⟩
    unfold hrs; rw [if_neg (by omega)]; rfl
set_option maxHeartbeats 4000000 in
set_option maxRecDepth 100000 in
theorem open12 (z : Zn) (t : Int) (hl : z.hours.length ≤ 60) : Ctr Try.prog 12 [.ag (eZn z), .fl (.int .i64 t)] (.d (.fl (.bool (opn z t)))) := by
  refine ctrN (n := 12) (rs := #[.cell 4 4]) (L := [(0, .d (.ag (eZn z))), (1, .d (.fl (.int .i64 t)))]) Try.func12 rfl rfl rfl rfl rfl (fun w0 U0 => ?_)
  refine b_rseq ?_
  refine rg_nam (d := 2) (v := .pt 101 0) (m := 101) (nw := [(101, .bx 25 (eZn z))]) rfl (og rfl (of_eff (op_box 101 rfl rfl rfl rfl) rfl)) rfl ?_
  refine rg_nam (d := 3) (v := .pt 102 0) (m := 102) (nw := [(102, .bx 3 [.fl (.int .i64 t)])]) rfl (og rfl (of_eff (op_box 102 rfl rfl rfl rfl) rfl)) rfl ?_
  refine rg_nam (d := 4) (v := .pt 103 0) (m := 103) (nw := [(103, .bx 4 [.fl (.bool false)])]) rfl (og rfl (of_eff (s_alloc 103 rfl ti4 (by kernel_rfl) rfl) rfl)) rfl ?_
  refine rg_done rfl ?_
  refine b_seqB ?_
  refine b_rseq ?_
  refine rg_put (d := 6) (v := .d (.ag (eZn z))) rfl (og rfl (of_eff (s_load_pts rfl Try.underlying25 rfl ti25 rfl rfl rfl rfl) rfl)) ?_
  refine rg_put (d := 7) (v := .d (.fn 37 [.el [.sl 3 (List.map eWd (hrs z))]])) rfl (og rfl (op_call rfl Try.func24 nm24 rfl (.cons rfl (.d _) .nil) (hours24 z hl) rfl)) ?_
  refine rg_done rfl ?_
  refine b_block ?_
  refine b_name 2 101 rfl (fun vn2 => ?_)
  refine b_name 3 102 rfl (fun vn3 => ?_)
  refine b_name 4 103 rfl (fun vn4 => ?_)
  refine b_imp (τ := SS [(0, .d (.ag (eZn z))), (1, .d (.fl (.int .i64 t))), (2, .pv 101 vn2), (3, .pv 102 vn3), (4, .pv 103 vn4), (7, .d (.fn 37 [.el [.sl 3 (List.map eWd (hrs z))]]))] [(101, .bx 25 (eZn z)), (102, .bx 3 [.fl (.int .i64 t)]), (103, .bx 4 [.fl (.bool false)])]) (imp_forget rfl ⟨rfl, rfl, rfl, rfl, rfl, rfl, trivial⟩ ⟨rfl, rfl, rfl, trivial⟩) ?_
  refine b_range (L := [(0, .d (.ag (eZn z))), (1, .d (.fl (.int .i64 t))), (2, .pv 101 vn2), (3, .pv 102 vn3), (4, .pv 103 vn4), (7, .d (.fn 37 [.el [.sl 3 (List.map eWd (hrs z))]]))]) (xs := List.map (fun x => .ag (eWd x)) ((vws (hrs z)))) ((fun k => inW (ix (vws (hrs z)) k) t)) (fun k => [(101, .bx 25 (eZn z)), (102, .bx 3 [.fl (.int .i64 t)]), (103, .bx 4 [.fl (.bool false)])]) rfl Try.func37 nm37 rfl (seqH (hrs z) (hrs_le z hl)) rfl rfl (fun k => rfl) (fun k => rfl) (fun k x hx hst H0 V0 Q0 => ?_) (fun hst H0 V0 Q0 => ?_)
  · skip
    obtain ⟨hkk, rfl⟩ := mapget hx
    refine a_region ?_
    refine rg_nam (d := 5) (v := .pt 104 0) (m := 104) (nw := [(104, .bx 48 [.fl (.int .i64 0), .fl (.int .i64 0), .fl (.int .i64 0)])]) rfl (og rfl (of_eff (s_alloc 104 rfl ti48 (by kernel_rfl) rfl) rfl)) rfl ?_
    refine rg_sto (nw := [(104, .bx 48 ((eWd ((ix ((vws (hrs z))) k)))))]) rfl (og rfl (of_eff (s_store rfl rfl ti48 rfl rfl rfl rfl rfl rfl) rfl)) ?_
    refine rg_done rfl ?_
    show ∃ L1 M1, _ ∧ _ ∧ _
    refine ⟨_, _, rfl, rfl, fun H0 V0 Q0 => ?_⟩
    show A _ _ _ _ _ _ (SS _ _)
    refine a_block ?_
    refine a_rseq ?_
    refine rg_put (d := 9) (v := .d (.ag (eWd (((ix ((vws (hrs z))) k)))))) rfl (og rfl (of_eff (s_load_pts rfl Try.underlying48 rfl ti48 rfl rfl rfl rfl) rfl)) ?_
    refine rg_put (d := 10) (v := .d (.fl (.int .i64 t))) rfl (og rfl (op_load_pt rfl Try.underlying3 rfl rfl rfl rfl rfl)) ?_
    refine rg_put (d := 11) (v := .d (.fl (.bool ((inW (((ix ((vws (hrs z))) k))) t))))) rfl (og rfl (op_call rfl Try.func25 nm25 rfl (.cons rfl (.d _) (.cons rfl (.d _) .nil)) (inW19 (((ix ((vws (hrs z))) k))) t) rfl)) ?_
    refine rg_done rfl ?_
    refine a_cond rfl (fun h1 => ?_) (fun h1 => ?_)
    · skip
      refine a_rseq ?_
      refine rg_sto (nw := [(103, .bx 4 [.fl (.bool true)])]) rfl (og rfl (of_eff (s_store rfl rfl ti4 rfl rfl rfl rfl rfl rfl) rfl)) ?_
      refine rg_done rfl ?_
      refine a_ret ?_
      show (_ ∧ _ ∧ _) ∨ _
      refine .inr ⟨[(101, .bx 25 (eZn z)), (102, .bx 3 [.fl (.int .i64 t)]), (103, .bx 4 [.fl (.bool true)])], h1, .inl rfl, rfl, rfl, imp_forget rfl ⟨rfl, rfl, rfl, rfl, rfl, rfl, trivial⟩ ⟨rfl, rfl, rfl, rfl, trivial⟩, fun H0 V0 Q0 => ?_⟩
      show ∃ ds, ResL _ _ _ ds ∧ RV.of ds = _
      refine ⟨[.fl (.bool true)], (.cons (.cell1 rfl rfl Try.underlying4 rfl (Cv.refl _)) .nil), ?_⟩
      rw [opn_t hkk h1]; rfl
    · skip
      refine a_skip ?_
      show (_ ∧ _ ∧ _) ∨ _
      refine .inl ⟨rfl, h1, ?_⟩
      exact imp_forget rfl ⟨rfl, rfl, rfl, rfl, rfl, rfl, trivial⟩ ⟨rfl, rfl, rfl, rfl, trivial⟩
  · skip
    show A _ _ _ _ _ _ _
    refine a_rseq ?_
    refine rg_sto (nw := [(103, .bx 4 [.fl (.bool false)])]) rfl (og rfl (of_eff (s_store rfl rfl ti4 rfl rfl rfl rfl rfl rfl) rfl)) ?_
    refine rg_done rfl ?_
    refine a_ret ?_
    show _ ∧ _
    refine ⟨?_, rfl⟩
    show ∃ ds, ResL _ _ _ ds ∧ RV.of ds = _
    refine ⟨[.fl (.bool false)], (.cons (.cell1 rfl rfl Try.underlying4 rfl (Cv.refl _)) .nil), ?_⟩
    rw [opn_f (fun i hi => hst i (by rw [List.length_map]; exact hi))]; rfl
end Go.Proofs.Ytniefocnfcaebaa.Wk
