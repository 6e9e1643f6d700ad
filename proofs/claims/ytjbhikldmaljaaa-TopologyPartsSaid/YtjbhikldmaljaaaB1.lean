/- The check of a network, both sides. No condition. -/
import Derived.Test.YtjbhikldmaljaaaNw
import Derived.Test.YtjbhikldmaljaaaKe
set_option linter.unusedSimpArgs false
set_option linter.unusedVariables false
namespace Go.Proofs.Ytjbhikldmaljaaa.Wk
open Go Go.RowKit Go.Proofs.Ytjbhikldmaljaaa.Av
theorem sEq_eq {a b : ByteArray} (h : sEq a b = true) : a = b := of_decide_eq_true h
theorem ix_eq {α : Type} [Inhabited α] {l : List α} {i : Nat} (h : i < l.length) : l[i] = ix l i := by
  have := ix_get h
  rw [List.getElem?_eq_getElem h] at this
  injection this
theorem ix_mem {α : Type} [Inhabited α] {l : List α} {k : Nat} (h : k < l.length) : ix l k ∈ l := by rw [← ix_eq h]; exact List.getElem_mem h
theorem mem_ix {α : Type} [Inhabited α] {l : List α} {x : α} (h : x ∈ l) : ∃ k, k < l.length ∧ ix l k = x := by
  obtain ⟨j, hj, he⟩ := List.mem_iff_getElem.1 h
  exact ⟨j, hj, by rw [← ix_eq hj]; exact he⟩
theorem fnd_at {α : Type} [Inhabited α] {p : α → Bool} {l : List α} {k : Nat} (hk : k < l.length) (h : ∀ q, q < k → p (ix l q) = false) (hp : p (ix l k) = true) : l.find? p = some (ix l k) := by
  rw [List.find?_eq_some_iff_getElem]
  refine ⟨hp, k, hk, ix_eq hk, fun j hj => ?_⟩
  rw [ix_eq (by omega), h j hj]; rfl
def fe (f : Nat → Int) : Nat → Nat → Int
  | _, 0 => 0
  | i, n + 1 => if f i = 0 then fe f (i + 1) n else f i
theorem fe_at {f : Nat → Int} {k n : Nat} (h : k < n) : fe f k (n - k) = if f k = 0 then fe f (k + 1) (n - (k + 1)) else f k := by
  rw [show n - k = (n - (k + 1)) + 1 by omega]; rfl
theorem fe_end {f : Nat → Int} {k n : Nat} (h : ¬ k < n) : fe f k (n - k) = 0 := by
  rw [show n - k = 0 by omega]; rfl
theorem fe_no {f : Nat → Int} {k n : Nat} {c : Int} (h : k < n) (hc : c = fe f k (n - k)) (hb : f k = 0) : c = fe f (k + 1) (n - (k + 1)) := by rw [hc, fe_at h, if_pos hb]
theorem fe_yes {f : Nat → Int} {k n : Nat} {c e : Int} (h : k < n) (hc : c = fe f k (n - k)) (hb : f k = e) (he : e ≠ 0) : c = e := by rw [hc, fe_at h, hb, if_neg he]
theorem sEq_comm' (a b : ByteArray) : sEq a b = sEq b a := by
  show decide (a = b) = decide (b = a)
  by_cases h : a = b
  · subst h; rfl
  · rw [decide_eq_false h, decide_eq_false (fun e => h e.symm)]
def dupP (l : List Pnt) (s : ByteArray) : Bool := l.any fun x => sEq x.name s
def dupL (l : List Lnk) (a b : ByteArray) : Bool := l.any fun x => sEq x.fr a && sEq x.to b
def setP (l : List Pnt) : List (Value × DV) := l.map fun x => (Value.string x.name, DV.fl (.bool true))
def setL (l : List Lnk) : List (Value × DV) := l.map fun x => (Value.agg ([.string x.fr, .string x.to] : List Value).toArray, DV.fl (.bool true))
theorem setP_take {l : List Pnt} {k : Nat} (h : k < l.length) : setP (l.take k) ++ [(Value.string (ix l k).name, DV.fl (.bool true))] = setP (l.take (k + 1)) := by unfold setP; rw [take_ix h, List.map_append]; rfl
theorem setL_take {l : List Lnk} {k : Nat} (h : k < l.length) : setL (l.take k) ++ [(Value.agg ([.string (ix l k).fr, .string (ix l k).to] : List Value).toArray, DV.fl (.bool true))] = setL (l.take (k + 1)) := by unfold setL; rw [take_ix h, List.map_append]; rfl
theorem okL (l : List Lnk) : ∀ x ∈ setL l, okK69 x.1 := by
  intro x hx
  obtain ⟨y, _, rfl⟩ := List.mem_map.1 hx
  exact ⟨_, _, rfl⟩
theorem mfindL (a b : ByteArray) : ∀ l : List Lnk, mfindK sameK69 (.agg ([.string a, .string b] : List Value).toArray) (setL l) = if dupL l a b = true then some (.fl (.bool true)) else none
  | [] => rfl
  | x :: l => by
    have ih := mfindL a b l
    show (bif (sEq a x.fr && sEq b x.to) then _ else mfindK sameK69 _ (setL l)) = if ((sEq x.fr a && sEq x.to b) || dupL l a b) = true then _ else _
    rw [ih, sEq_comm' a, sEq_comm' b]
    cases (sEq x.fr a && sEq x.to b) <;> simp
noncomputable def pt1 (l : List Pnt) (k : Nat) : Int := bif !(Nm.nmB (ix l k).name) then 6 else bif dupP (l.take k) (ix l k).name then 9 else bif (decide ((ix l k).kind < 1) || decide (4 < (ix l k).kind)) then 1 else bif (!(sEq (ix l k).sys ⟨#[]⟩) && !(Nm.nmB (ix l k).sys)) then 6 else 0
noncomputable def ptE (l : List Pnt) : Int := fe (pt1 l) 0 l.length
noncomputable def lk1 (p : List Pnt) (l : List Lnk) (k : Nat) : Int := bif ((!(dupP p (ix l k).fr) || !(dupP p (ix l k).to)) || sEq (ix l k).fr (ix l k).to) then 16 else bif dupL (l.take k) (ix l k).fr (ix l k).to then 9 else bif ((decide ((ix l k).lo < 1) || decide ((ix l k).hi < (ix l k).lo)) || decide (2147483648 < (ix l k).hi)) then 12 else 0
noncomputable def lkE (p : List Pnt) (l : List Lnk) : Int := fe (lk1 p l) 0 l.length
noncomputable def gck (n : Nwk) : Int := bif (decide (64 < (n.pts.length : Int)) || decide (128 < (n.lks.length : Int))) then 3 else bif ptE n.pts != 0 then ptE n.pts else lkE n.pts n.lks
theorem gck_l {n : Nwk} (h : (decide (64 < (n.pts.length : Int)) || decide (128 < (n.lks.length : Int))) = true) : gck n = 3 := by unfold gck; rw [h]; rfl
theorem gck_p {n : Nwk} {c : Int} (h : (decide (64 < (n.pts.length : Int)) || decide (128 < (n.lks.length : Int))) = false) (hp : ptE n.pts = c) (hc : c ≠ 0) : gck n = c := by
  unfold gck; rw [h, hp]; show (bif c != 0 then c else _) = c; rw [bne_iff_ne.2 hc]; rfl
theorem gck_k {n : Nwk} (h : (decide (64 < (n.pts.length : Int)) || decide (128 < (n.lks.length : Int))) = false) (hp : ptE n.pts = 0) : gck n = lkE n.pts n.lks := by
  unfold gck; rw [h, hp]; rfl
def plc (l : List Pnt) (n : Nat) (s : ByteArray) : Int := match (l.take n).findIdx? (fun x => sEq x.name s) with
  | some i => (i : Int)
  | none => -1
theorem nmC (s : ByteArray) : Ctr Try.prog 13 [.fl (.string s)] (.d (.fl (.bool (Nm.nmB s)))) := ctr_flat [.string s] (fun w => Nw.name14 s w)
set_option maxHeartbeats 4000000 in
set_option maxRecDepth 100000 in
theorem gck_c (n : Nwk) : Ctr Try.prog 12 [.ag (eNwk n)] (.d (.fl (.int .i64 (gck n)))) := by
  refine ctr (n := 117) (rs := #[.tmp 2]) (L := [(0, .d (.ag (eNwk n)))]) Try.func12 rfl rfl rfl rfl rfl (fun w0 U0 => ?_)
  refine a_rseq ?_
  refine rg_nam (d := 1) (v := .pt 101 0) (m := 101) (nw := [(101, .bx 25 (eNwk n))]) rfl (og rfl (of_eff (op_box 101 rfl rfl rfl rfl) rfl)) rfl ?_
  refine rg_put (d := 2) (v := .d (.fl (.int .i64 0))) rfl (og rfl (op_assign rfl rfl rfl)) ?_
  refine rg_done rfl ?_
  refine a_seq ?_
  refine a_rseq ?_
  refine rg_put (d := 10) (v := .pt 101 0) rfl (og rfl (of_eff (s_field_pt rfl Try.underlying25 rfl ti22 rfl rfl rfl) rfl)) ?_
  refine rg_put (d := 11) (v := .d (.sl 3 (List.map ePnt n.pts))) rfl (og rfl (op_load_pt rfl Try.underlying22 rfl rfl rfl rfl rfl)) ?_
  refine rg_put (d := 12) (v := .d (.fl (.int .i64 (n.pts.length : Int)))) rfl (og rfl (s_len rfl Try.underlying22 rfl rfl)) ?_
  refine rg_put (d := 13) (v := .d (.fl (.bool ((decide (64 < (n.pts.length : Int))))))) rfl (og rfl (op_bin rfl rfl rfl (b_gtr _ _ _ _) rfl)) ?_
  refine rg_put (d := 14) (v := .d (.fl (.bool ((decide (64 < (n.pts.length : Int))))))) rfl (og rfl (op_move rfl rfl rfl)) ?_
  rcases fot ((decide (64 < (n.pts.length : Int)))) with h1 | h1
  · skip
    have h2 := f_dec h1
    refine rg_put (d := 15) (v := .pt 101 1) rfl (oy rfl rfl rfl h1 (of_eff (s_field_pt rfl Try.underlying25 rfl ti23 rfl rfl rfl) rfl)) ?_
    refine rg_put (d := 16) (v := .d (.sl 4 (List.map eLnk n.lks))) rfl (oy rfl rfl rfl h1 (op_load_pt rfl Try.underlying23 rfl rfl rfl rfl rfl)) ?_
    refine rg_put (d := 17) (v := .d (.fl (.int .i64 (n.lks.length : Int)))) rfl (oy rfl rfl rfl h1 (s_len rfl Try.underlying23 rfl rfl)) ?_
    refine rg_put (d := 18) (v := .d (.fl (.bool ((decide (128 < (n.lks.length : Int))))))) rfl (oy rfl rfl rfl h1 (op_bin rfl rfl rfl (b_gtr _ _ _ _) rfl)) ?_
    refine rg_put (d := 19) (v := .d (.fl (.bool ((decide (128 < (n.lks.length : Int))))))) rfl (og rfl (op_pick rfl rfl (by rw [h1]; rfl) rfl)) ?_
    refine rg_done rfl ?_
    refine a_cond rfl (fun h3 => ?_) (fun h3 => ?_)
    · skip
      have h4 := t_dec h3
      refine a_rseq ?_
      refine rg_put (d := 2) (v := .d (.fl (.int .i64 3))) rfl (og rfl (op_assign rfl rfl rfl)) ?_
      refine rg_done rfl ?_
      refine a_ret ?_
      show ∃ ds, ResL _ _ _ ds ∧ RV.of ds = _
      refine ⟨[.fl (.int .i64 3)], (.cons (.tmp rfl (.d _)) .nil), ?_⟩
      rw [gck_l (by simp only [h1, h3, Bool.true_or, Bool.false_or, Bool.or_true, Bool.or_false, Bool.not_true, Bool.not_false, cond_true, cond_false, Bool.true_and, Bool.false_and, Bool.and_true, Bool.and_false] <;> rfl)]; rfl
    · skip
      have h5 := f_dec h3
      refine a_skip ?_
      show A _ _ _ _ _ _ _
      refine a_rseq ?_
      refine rg_nam (d := 20) (v := .ow 102) (m := 102) (nw := [(102, .mp [])]) rfl (og rfl (op_makeMap 102 rfl rfl)) rfl ?_
      refine rg_put (d := 3) (v := .ow 102) rfl (og rfl (op_assign rfl rfl rfl)) ?_
      refine rg_done rfl ?_
      refine a_seq ?_
      refine a_rseq ?_
      refine rg_put (d := 21) (v := .pt 101 0) rfl (og rfl (of_eff (s_field_pt rfl Try.underlying25 rfl ti22 rfl rfl rfl) rfl)) ?_
      refine rg_put (d := 22) (v := .d (.sl 3 (List.map ePnt n.pts))) rfl (og rfl (op_load_pt rfl Try.underlying22 rfl rfl rfl rfl rfl)) ?_
      refine rg_put (d := 23) (v := .d (.fl (.int .i64 (n.pts.length : Int)))) rfl (og rfl (s_len rfl Try.underlying22 rfl rfl)) ?_
      refine rg_put (d := 24) (v := .d (.fl (.int .i64 0))) rfl (og rfl (op_move rfl rfl rfl)) ?_
      refine rg_done rfl ?_
      refine a_block ?_
      refine a_loop (ι := Nat) (fun k => SS [(0, .d (.ag (eNwk n))), (1, .pt 101 0), (3, .ow 102), (19, .d (.fl (.bool ((decide (128 < (n.lks.length : Int))))))), (22, .d (.sl 3 (List.map ePnt n.pts))), (23, .d (.fl (.int .i64 (n.pts.length : Int)))), (24, .d (.fl (.int .i64 (k : Int))))] [(101, .bx 25 (eNwk n)), (102, .mp ((setP (n.pts.take k))))]) (fun k => k ≤ n.pts.length ∧ ptE n.pts = fe (pt1 n.pts) k (n.pts.length - k)) (fun k => n.pts.length - k) 0 (⟨by omega, rfl⟩) (imp_forget rfl ⟨rfl, rfl, rfl, rfl, rfl, rfl, (by first | rfl | exact ci (by omega) | exact ci (by simp) | exact cd (by simp) | simp), trivial⟩ ⟨rfl, rfl, trivial⟩) (fun k hok => ?_)
      obtain ⟨hk, hc⟩ := hok
      refine a_rseq ?_
      refine rg_put (d := 25) (v := .d (.fl (.bool ((decide ((k : Int) < (n.pts.length : Int))))))) rfl (og rfl (op_bin rfl rfl rfl (b_lss _ _ _ _) rfl)) ?_
      refine rg_done rfl ?_
      refine a_seq ?_
      refine a_cond rfl (fun h6 => ?_) (fun h6 => ?_)
      · skip
        have h7 := t_dec h6
        refine a_skip ?_
        show A _ _ _ _ _ _ _
        refine a_seq ?_
        refine a_block ?_
        refine a_rseq ?_
        refine rg_put (d := 26) (v := .el ((ePnt (ix n.pts k)))) rfl (og rfl (s_index rfl Try.underlying22 ti35 rfl rfl (by omega) (row_at (by omega)) rfl)) ?_
        refine rg_put (d := 27) (v := .d (.ag (ePnt (ix n.pts k)))) rfl (og rfl (of_eff (s_load_els rfl Try.underlying35 rfl ti35 rfl rfl rfl) rfl)) ?_
        refine rg_nam (d := 5) (v := .pt 103 0) (m := 103) (nw := [(103, .bx 35 ([.fl (.string (⟨#[]⟩)), .fl (.int .i64 0), .fl (.string (⟨#[]⟩))]))]) rfl (og rfl (of_eff (s_alloc 103 rfl ti35 (by kernel_rfl) rfl) rfl)) rfl ?_
        refine rg_sto (nw := [(103, .bx 35 ((ePnt (ix n.pts k))))]) rfl (og rfl (of_eff (s_store rfl rfl ti35 rfl rfl rfl rfl rfl rfl) rfl)) ?_
        refine rg_done rfl ?_
        refine a_seq ?_
        refine a_block ?_
        refine a_rseq ?_
        refine rg_put (d := 29) (v := .pt 103 0) rfl (og rfl (of_eff (s_field_pt rfl Try.underlying35 rfl ti9 rfl rfl rfl) rfl)) ?_
        refine rg_put (d := 30) (v := .d (.fl (.string ((ix n.pts k).name)))) rfl (og rfl (op_load_pt rfl Try.underlying9 rfl rfl rfl rfl rfl)) ?_
        refine rg_put (d := 31) (v := .d (.fl (.bool ((Nm.nmB ((ix n.pts k).name)))))) rfl (og rfl (op_call rfl Try.func13 nm13 rfl (.cons rfl (.d _) .nil) (nmC ((ix n.pts k).name)) rfl)) ?_
        refine rg_put (d := 32) (v := .d (.fl (.bool ((!((Nm.nmB ((ix n.pts k).name)))))))) rfl (og rfl (op_un rfl rfl (u_not _) rfl)) ?_
        refine rg_put (d := 28) (v := .d (.fl (.bool ((!((Nm.nmB ((ix n.pts k).name)))))))) rfl (og rfl (op_assign rfl rfl rfl)) ?_
        refine rg_done rfl ?_
        refine a_cond rfl (fun h8 => ?_) (fun h8 => ?_)
        · skip
          have h9 := t_not h8
          refine a_rseq ?_
          refine rg_put (d := 2) (v := .d (.fl (.int .i64 6))) rfl (og rfl (op_assign rfl rfl rfl)) ?_
          refine rg_done rfl ?_
          refine a_ret ?_
          show ∃ ds, ResL _ _ _ ds ∧ RV.of ds = _
          refine ⟨[.fl (.int .i64 6)], (.cons (.tmp rfl (.d _)) .nil), ?_⟩
          have hb : pt1 n.pts k = 6 := by unfold pt1; simp only [h1, h3, h6, h8, h9, Bool.true_or, Bool.false_or, Bool.or_true, Bool.or_false, Bool.not_true, Bool.not_false, cond_true, cond_false, Bool.true_and, Bool.false_and, Bool.and_true, Bool.and_false] <;> rfl
          rw [gck_p (by simp only [h1, h3, h6, h8, h9, Bool.true_or, Bool.false_or, Bool.or_true, Bool.or_false, Bool.not_true, Bool.not_false, cond_true, cond_false, Bool.true_and, Bool.false_and, Bool.and_true, Bool.and_false] <;> rfl) (show ptE n.pts = 6 from fe_yes (by omega) hc hb (by decide)) (by decide)]; rfl
        · skip
          have h10 := f_not h8
          refine a_rseq ?_
          refine rg_put (d := 34) (v := .ow 102) rfl (og rfl (op_move rfl rfl rfl)) ?_
          refine rg_put (d := 35) (v := .pt 103 0) rfl (og rfl (of_eff (s_field_pt rfl Try.underlying35 rfl ti9 rfl rfl rfl) rfl)) ?_
          refine rg_put (d := 36) (v := .d (.fl (.string ((ix n.pts k).name)))) rfl (og rfl (op_load_pt rfl Try.underlying9 rfl rfl rfl rfl rfl)) ?_
          rcases fot ((dupP (n.pts.take k) ((ix n.pts k).name))) with h11 | h11
          · skip
            refine rg_put (d := 37) (v := .d (.fl (.bool false))) rfl (og rfl (op_lookup1 rfl Try.underlying65 Try.underlying9 rfl ti4 rfl rfl (.ow rfl) rfl (r := none) ((mfind_set Pnt.name _ _).trans (by rw [show (List.any _ _) = _ from h11]; rfl)) rfl rfl)) ?_
            refine rg_put (d := 33) (v := .d (.fl (.bool false))) rfl (og rfl (op_assign rfl rfl rfl)) ?_
            refine rg_done rfl ?_
            refine a_condF rfl rfl ?_
            refine a_rseq ?_
            refine rg_put (d := 39) (v := .pt 103 1) rfl (og rfl (of_eff (s_field_pt rfl Try.underlying35 rfl ti3 rfl rfl rfl) rfl)) ?_
            refine rg_put (d := 40) (v := .d (.fl (.int .i64 ((ix n.pts k).kind)))) rfl (og rfl (op_load_pt rfl Try.underlying3 rfl rfl rfl rfl rfl)) ?_
            refine rg_put (d := 41) (v := .d (.fl (.bool ((decide ((ix n.pts k).kind < 1)))))) rfl (og rfl (op_bin rfl rfl rfl (b_lss _ _ _ _) rfl)) ?_
            refine rg_put (d := 42) (v := .d (.fl (.bool ((decide ((ix n.pts k).kind < 1)))))) rfl (og rfl (op_move rfl rfl rfl)) ?_
            rcases fot ((decide ((ix n.pts k).kind < 1))) with h12 | h12
            · skip
              have h13 := f_dec h12
              refine rg_put (d := 43) (v := .pt 103 1) rfl (oy rfl rfl rfl h12 (of_eff (s_field_pt rfl Try.underlying35 rfl ti3 rfl rfl rfl) rfl)) ?_
              refine rg_put (d := 44) (v := .d (.fl (.int .i64 ((ix n.pts k).kind)))) rfl (oy rfl rfl rfl h12 (op_load_pt rfl Try.underlying3 rfl rfl rfl rfl rfl)) ?_
              refine rg_put (d := 45) (v := .d (.fl (.bool ((decide (4 < (ix n.pts k).kind)))))) rfl (oy rfl rfl rfl h12 (op_bin rfl rfl rfl (b_gtr _ _ _ _) rfl)) ?_
              refine rg_put (d := 46) (v := .d (.fl (.bool ((decide (4 < (ix n.pts k).kind)))))) rfl (og rfl (op_pick rfl rfl (by rw [h12]; rfl) rfl)) ?_
              refine rg_put (d := 38) (v := .d (.fl (.bool ((decide (4 < (ix n.pts k).kind)))))) rfl (og rfl (op_assign rfl rfl rfl)) ?_
              refine rg_done rfl ?_
              refine a_cond rfl (fun h14 => ?_) (fun h14 => ?_)
              · skip
                have h15 := t_dec h14
                refine a_rseq ?_
                refine rg_put (d := 2) (v := .d (.fl (.int .i64 1))) rfl (og rfl (op_assign rfl rfl rfl)) ?_
                refine rg_done rfl ?_
                refine a_ret ?_
                show ∃ ds, ResL _ _ _ ds ∧ RV.of ds = _
                refine ⟨[.fl (.int .i64 1)], (.cons (.tmp rfl (.d _)) .nil), ?_⟩
                have hb : pt1 n.pts k = 1 := by unfold pt1; simp only [h1, h3, h6, h8, h10, h11, h12, h14, Bool.true_or, Bool.false_or, Bool.or_true, Bool.or_false, Bool.not_true, Bool.not_false, cond_true, cond_false, Bool.true_and, Bool.false_and, Bool.and_true, Bool.and_false] <;> rfl
                rw [gck_p (by simp only [h1, h3, h6, h8, h10, h11, h12, h14, Bool.true_or, Bool.false_or, Bool.or_true, Bool.or_false, Bool.not_true, Bool.not_false, cond_true, cond_false, Bool.true_and, Bool.false_and, Bool.and_true, Bool.and_false] <;> rfl) (show ptE n.pts = 1 from fe_yes (by omega) hc hb (by decide)) (by decide)]; rfl
              · skip
                have h16 := f_dec h14
                refine a_rseq ?_
                refine rg_put (d := 48) (v := .pt 103 2) rfl (og rfl (of_eff (s_field_pt rfl Try.underlying35 rfl ti9 rfl rfl rfl) rfl)) ?_
                refine rg_put (d := 49) (v := .d (.fl (.string ((ix n.pts k).sys)))) rfl (og rfl (op_load_pt rfl Try.underlying9 rfl rfl rfl rfl rfl)) ?_
                refine rg_put (d := 50) (v := .d (.fl (.bool ((!(sEq ((ix n.pts k).sys) (⟨#[]⟩))))))) rfl (og rfl (op_bin rfl rfl rfl (b_sne _ _ _) rfl)) ?_
                refine rg_put (d := 51) (v := .d (.fl (.bool ((!(sEq ((ix n.pts k).sys) (⟨#[]⟩))))))) rfl (og rfl (op_move rfl rfl rfl)) ?_
                rcases fot ((!(sEq ((ix n.pts k).sys) (⟨#[]⟩)))) with h17 | h17
                · skip
                  have h18 := f_not h17
                  refine rg_put (d := 52) (v := .d (.fl undef)) rfl (on rfl rfl rfl h17) ?_
                  refine rg_put (d := 53) (v := .d (.fl undef)) rfl (on rfl rfl rfl h17) ?_
                  refine rg_put (d := 54) (v := .d (.fl undef)) rfl (on rfl rfl rfl h17) ?_
                  refine rg_put (d := 55) (v := .d (.fl undef)) rfl (on rfl rfl rfl h17) ?_
                  refine rg_put (d := 56) (v := .d (.fl (.bool false))) rfl (og rfl (op_pick rfl rfl (by rw [h17]; rfl) rfl)) ?_
                  refine rg_put (d := 47) (v := .d (.fl (.bool false))) rfl (og rfl (op_assign rfl rfl rfl)) ?_
                  refine rg_done rfl ?_
                  refine a_condF rfl rfl ?_
                  refine a_skip ?_
                  show A _ _ _ _ _ _ _
                  refine a_region ?_
                  refine rg_put (d := 57) (v := .ow 102) rfl (og rfl (op_move rfl rfl rfl)) ?_
                  refine rg_put (d := 58) (v := .pt 103 0) rfl (og rfl (of_eff (s_field_pt rfl Try.underlying35 rfl ti9 rfl rfl rfl) rfl)) ?_
                  refine rg_put (d := 59) (v := .d (.fl (.string ((ix n.pts k).name)))) rfl (og rfl (op_load_pt rfl Try.underlying9 rfl rfl rfl rfl rfl)) ?_
                  refine rg_sto (nw := [(102, .mp ((setP (n.pts.take k)) ++ [((.string ((ix n.pts k).name)), .fl (.bool true))]))]) rfl (og rfl (op_mapPush rfl rfl Try.underlying65 Try.underlying9 rfl rfl rfl rfl ((mfind_set Pnt.name _ _).trans (by rw [show (List.any _ _) = _ from h11]; rfl)) rfl)) ?_
                  refine rg_done rfl ?_
                  show A _ _ _ _ _ _ _
                  refine a_region ?_
                  refine rg_put (d := 60) (v := .d (.fl (.int .i64 (((k : Int) + 1))))) rfl (og rfl (op_bin rfl rfl rfl (fun x y w => b_add64 _ _ _ x y w (by omega)) rfl)) ?_
                  refine rg_put (d := 24) (v := .d (.fl (.int .i64 (((k : Int) + 1))))) rfl (og rfl (op_move rfl rfl rfl)) ?_
                  refine rg_done rfl ?_
                  have hb : pt1 n.pts k = 0 := by unfold pt1; simp only [h1, h3, h6, h8, h10, h11, h12, h14, h17, h18, Bool.true_or, Bool.false_or, Bool.or_true, Bool.or_false, Bool.not_true, Bool.not_false, cond_true, cond_false, Bool.true_and, Bool.false_and, Bool.and_true, Bool.and_false] <;> rfl
                  show ∃ i, _ ∧ _ ∧ Imp _ _ _ _ _
                  refine ⟨k + 1, ⟨by omega, fe_no (by omega) hc hb⟩, by omega, imp_forget rfl ⟨rfl, rfl, rfl, rfl, rfl, rfl, (by first | rfl | exact ci (by omega) | exact ci (by simp) | exact cd (by simp) | simp), trivial⟩ ⟨rfl, (congrArg (fun z => Ob.mp z) (setP_take (by omega))), trivial⟩⟩
                · skip
                  have h19 := t_not h17
                  refine rg_put (d := 52) (v := .pt 103 2) rfl (oy rfl rfl rfl h17 (of_eff (s_field_pt rfl Try.underlying35 rfl ti9 rfl rfl rfl) rfl)) ?_
                  refine rg_put (d := 53) (v := .d (.fl (.string ((ix n.pts k).sys)))) rfl (oy rfl rfl rfl h17 (op_load_pt rfl Try.underlying9 rfl rfl rfl rfl rfl)) ?_
                  refine rg_put (d := 54) (v := .d (.fl (.bool ((Nm.nmB ((ix n.pts k).sys)))))) rfl (oy rfl rfl rfl h17 (op_call rfl Try.func13 nm13 rfl (.cons rfl (.d _) .nil) (nmC ((ix n.pts k).sys)) rfl)) ?_
                  refine rg_put (d := 55) (v := .d (.fl (.bool ((!((Nm.nmB ((ix n.pts k).sys)))))))) rfl (oy rfl rfl rfl h17 (op_un rfl rfl (u_not _) rfl)) ?_
                  refine rg_put (d := 56) (v := .d (.fl (.bool ((!((Nm.nmB ((ix n.pts k).sys)))))))) rfl (og rfl (op_pick rfl rfl (by rw [h17]; rfl) rfl)) ?_
                  refine rg_put (d := 47) (v := .d (.fl (.bool ((!((Nm.nmB ((ix n.pts k).sys)))))))) rfl (og rfl (op_assign rfl rfl rfl)) ?_
                  refine rg_done rfl ?_
                  refine a_cond rfl (fun h20 => ?_) (fun h20 => ?_)
                  · skip
                    have h21 := t_not h20
                    refine a_rseq ?_
                    refine rg_put (d := 2) (v := .d (.fl (.int .i64 6))) rfl (og rfl (op_assign rfl rfl rfl)) ?_
                    refine rg_done rfl ?_
                    refine a_ret ?_
                    show ∃ ds, ResL _ _ _ ds ∧ RV.of ds = _
                    refine ⟨[.fl (.int .i64 6)], (.cons (.tmp rfl (.d _)) .nil), ?_⟩
                    have hb : pt1 n.pts k = 6 := by unfold pt1; simp only [h1, h3, h6, h8, h10, h11, h12, h14, h17, h19, h20, h21, Bool.true_or, Bool.false_or, Bool.or_true, Bool.or_false, Bool.not_true, Bool.not_false, cond_true, cond_false, Bool.true_and, Bool.false_and, Bool.and_true, Bool.and_false] <;> rfl
                    rw [gck_p (by simp only [h1, h3, h6, h8, h10, h11, h12, h14, h17, h19, h20, h21, Bool.true_or, Bool.false_or, Bool.or_true, Bool.or_false, Bool.not_true, Bool.not_false, cond_true, cond_false, Bool.true_and, Bool.false_and, Bool.and_true, Bool.and_false] <;> rfl) (show ptE n.pts = 6 from fe_yes (by omega) hc hb (by decide)) (by decide)]; rfl
                  · skip
                    have h22 := f_not h20
                    refine a_skip ?_
                    show A _ _ _ _ _ _ _
                    refine a_region ?_
                    refine rg_put (d := 57) (v := .ow 102) rfl (og rfl (op_move rfl rfl rfl)) ?_
                    refine rg_put (d := 58) (v := .pt 103 0) rfl (og rfl (of_eff (s_field_pt rfl Try.underlying35 rfl ti9 rfl rfl rfl) rfl)) ?_
                    refine rg_put (d := 59) (v := .d (.fl (.string ((ix n.pts k).name)))) rfl (og rfl (op_load_pt rfl Try.underlying9 rfl rfl rfl rfl rfl)) ?_
                    refine rg_sto (nw := [(102, .mp ((setP (n.pts.take k)) ++ [((.string ((ix n.pts k).name)), .fl (.bool true))]))]) rfl (og rfl (op_mapPush rfl rfl Try.underlying65 Try.underlying9 rfl rfl rfl rfl ((mfind_set Pnt.name _ _).trans (by rw [show (List.any _ _) = _ from h11]; rfl)) rfl)) ?_
                    refine rg_done rfl ?_
                    show A _ _ _ _ _ _ _
                    refine a_region ?_
                    refine rg_put (d := 60) (v := .d (.fl (.int .i64 (((k : Int) + 1))))) rfl (og rfl (op_bin rfl rfl rfl (fun x y w => b_add64 _ _ _ x y w (by omega)) rfl)) ?_
                    refine rg_put (d := 24) (v := .d (.fl (.int .i64 (((k : Int) + 1))))) rfl (og rfl (op_move rfl rfl rfl)) ?_
                    refine rg_done rfl ?_
                    have hb : pt1 n.pts k = 0 := by unfold pt1; simp only [h1, h3, h6, h8, h10, h11, h12, h14, h17, h19, h20, h22, Bool.true_or, Bool.false_or, Bool.or_true, Bool.or_false, Bool.not_true, Bool.not_false, cond_true, cond_false, Bool.true_and, Bool.false_and, Bool.and_true, Bool.and_false] <;> rfl
                    show ∃ i, _ ∧ _ ∧ Imp _ _ _ _ _
                    refine ⟨k + 1, ⟨by omega, fe_no (by omega) hc hb⟩, by omega, imp_forget rfl ⟨rfl, rfl, rfl, rfl, rfl, rfl, (by first | rfl | exact ci (by omega) | exact ci (by simp) | exact cd (by simp) | simp), trivial⟩ ⟨rfl, (congrArg (fun z => Ob.mp z) (setP_take (by omega))), trivial⟩⟩
            · skip
              have h23 := t_dec h12
              refine rg_put (d := 43) (v := .d (.fl undef)) rfl (on rfl rfl rfl h12) ?_
              refine rg_put (d := 44) (v := .d (.fl undef)) rfl (on rfl rfl rfl h12) ?_
              refine rg_put (d := 45) (v := .d (.fl undef)) rfl (on rfl rfl rfl h12) ?_
              refine rg_put (d := 46) (v := .d (.fl (.bool true))) rfl (og rfl (op_pick rfl rfl (by rw [h12]; rfl) rfl)) ?_
              refine rg_put (d := 38) (v := .d (.fl (.bool true))) rfl (og rfl (op_assign rfl rfl rfl)) ?_
              refine rg_done rfl ?_
              refine a_condK rfl rfl ?_
              refine a_rseq ?_
              refine rg_put (d := 2) (v := .d (.fl (.int .i64 1))) rfl (og rfl (op_assign rfl rfl rfl)) ?_
              refine rg_done rfl ?_
              refine a_ret ?_
              show ∃ ds, ResL _ _ _ ds ∧ RV.of ds = _
              refine ⟨[.fl (.int .i64 1)], (.cons (.tmp rfl (.d _)) .nil), ?_⟩
              have hb : pt1 n.pts k = 1 := by unfold pt1; simp only [h1, h3, h6, h8, h10, h11, h12, Bool.true_or, Bool.false_or, Bool.or_true, Bool.or_false, Bool.not_true, Bool.not_false, cond_true, cond_false, Bool.true_and, Bool.false_and, Bool.and_true, Bool.and_false] <;> rfl
              rw [gck_p (by simp only [h1, h3, h6, h8, h10, h11, h12, Bool.true_or, Bool.false_or, Bool.or_true, Bool.or_false, Bool.not_true, Bool.not_false, cond_true, cond_false, Bool.true_and, Bool.false_and, Bool.and_true, Bool.and_false] <;> rfl) (show ptE n.pts = 1 from fe_yes (by omega) hc hb (by decide)) (by decide)]; rfl
          · skip
            refine rg_put (d := 37) (v := .d (.fl (.bool true))) rfl (og rfl (op_lookup1 rfl Try.underlying65 Try.underlying9 rfl ti4 rfl rfl (.ow rfl) rfl (r := (some (.fl (.bool true)))) ((mfind_set Pnt.name _ _).trans (by rw [show (List.any _ _) = _ from h11]; rfl)) rfl rfl)) ?_
            refine rg_put (d := 33) (v := .d (.fl (.bool true))) rfl (og rfl (op_assign rfl rfl rfl)) ?_
            refine rg_done rfl ?_
            refine a_condK rfl rfl ?_
            refine a_rseq ?_
            refine rg_put (d := 2) (v := .d (.fl (.int .i64 9))) rfl (og rfl (op_assign rfl rfl rfl)) ?_
            refine rg_done rfl ?_
            refine a_ret ?_
            show ∃ ds, ResL _ _ _ ds ∧ RV.of ds = _
            refine ⟨[.fl (.int .i64 9)], (.cons (.tmp rfl (.d _)) .nil), ?_⟩
            have hb : pt1 n.pts k = 9 := by unfold pt1; simp only [h1, h3, h6, h8, h10, h11, Bool.true_or, Bool.false_or, Bool.or_true, Bool.or_false, Bool.not_true, Bool.not_false, cond_true, cond_false, Bool.true_and, Bool.false_and, Bool.and_true, Bool.and_false] <;> rfl
            rw [gck_p (by simp only [h1, h3, h6, h8, h10, h11, Bool.true_or, Bool.false_or, Bool.or_true, Bool.or_false, Bool.not_true, Bool.not_false, cond_true, cond_false, Bool.true_and, Bool.false_and, Bool.and_true, Bool.and_false] <;> rfl) (show ptE n.pts = 9 from fe_yes (by omega) hc hb (by decide)) (by decide)]; rfl
      · skip
        have h24 := f_dec h6
        refine a_exit ?_
        show A _ _ _ _ _ _ _
        refine a_rseq ?_
        have hp0 : ptE n.pts = 0 := by rw [fe_end (by omega)] at hc; exact hc
        have hlim : (decide (64 < (n.pts.length : Int)) || decide (128 < (n.lks.length : Int))) = false := (by simp only [h1, h3, h6, Bool.true_or, Bool.false_or, Bool.or_true, Bool.or_false, Bool.not_true, Bool.not_false, cond_true, cond_false, Bool.true_and, Bool.false_and, Bool.and_true, Bool.and_false] <;> rfl)
        have hp64 : n.pts.length ≤ 64 := by omega
        rw [show (setP (n.pts.take k)) = (setP n.pts) from (by rw [List.take_of_length_le (by omega)])]
        refine rg_nam (d := 61) (v := .ow 104) (m := 104) (nw := [(104, .mp [])]) rfl (og rfl (op_makeMap 104 rfl rfl)) rfl ?_
        refine rg_put (d := 6) (v := .ow 104) rfl (og rfl (op_assign rfl rfl rfl)) ?_
        refine rg_done rfl ?_
        refine a_seq ?_
        refine a_rseq ?_
        refine rg_put (d := 62) (v := .pt 101 1) rfl (og rfl (of_eff (s_field_pt rfl Try.underlying25 rfl ti23 rfl rfl rfl) rfl)) ?_
        refine rg_put (d := 63) (v := .d (.sl 4 (List.map eLnk n.lks))) rfl (og rfl (op_load_pt rfl Try.underlying23 rfl rfl rfl rfl rfl)) ?_
        refine rg_put (d := 64) (v := .d (.fl (.int .i64 (n.lks.length : Int)))) rfl (og rfl (s_len rfl Try.underlying23 rfl rfl)) ?_
        refine rg_put (d := 65) (v := .d (.fl (.int .i64 0))) rfl (og rfl (op_move rfl rfl rfl)) ?_
        refine rg_done rfl ?_
        refine a_block ?_
        refine a_loop (ι := Nat) (fun j => SS [(0, .d (.ag (eNwk n))), (1, .pt 101 0), (3, .ow 102), (6, .ow 104), (19, .d (.fl (.bool ((decide (128 < (n.lks.length : Int))))))), (22, .d (.sl 3 (List.map ePnt n.pts))), (23, .d (.fl (.int .i64 (n.pts.length : Int)))), (24, .d (.fl (.int .i64 (k : Int)))), (25, .d (.fl (.bool ((decide ((k : Int) < (n.pts.length : Int))))))), (63, .d (.sl 4 (List.map eLnk n.lks))), (64, .d (.fl (.int .i64 (n.lks.length : Int)))), (65, .d (.fl (.int .i64 (j : Int))))] [(101, .bx 25 (eNwk n)), (102, .mp (setP n.pts)), (104, .mp ((setL (n.lks.take j))))]) (fun j => j ≤ n.lks.length ∧ lkE n.pts n.lks = fe (lk1 n.pts n.lks) j (n.lks.length - j)) (fun j => n.lks.length - j) 0 (⟨by omega, rfl⟩) (imp_forget rfl ⟨rfl, rfl, rfl, rfl, rfl, rfl, rfl, rfl, rfl, rfl, rfl, (by first | rfl | exact ci (by omega) | exact ci (by simp) | exact cd (by simp) | simp), trivial⟩ ⟨rfl, rfl, rfl, trivial⟩) (fun j hok => ?_)
        obtain ⟨hk, hc⟩ := hok
        refine a_rseq ?_
        refine rg_put (d := 66) (v := .d (.fl (.bool ((decide ((j : Int) < (n.lks.length : Int))))))) rfl (og rfl (op_bin rfl rfl rfl (b_lss _ _ _ _) rfl)) ?_
        refine rg_done rfl ?_
        refine a_seq ?_
        refine a_cond rfl (fun h25 => ?_) (fun h25 => ?_)
        · skip
          have h26 := t_dec h25
          refine a_skip ?_
          show A _ _ _ _ _ _ _
          refine a_seq ?_
          refine a_block ?_
          refine a_rseq ?_
          refine rg_put (d := 67) (v := .el ((eLnk (ix n.lks j)))) rfl (og rfl (s_index rfl Try.underlying23 ti68 rfl rfl (by omega) (row_at (by omega)) rfl)) ?_
          refine rg_put (d := 68) (v := .d (.ag (eLnk (ix n.lks j)))) rfl (og rfl (of_eff (s_load_els rfl Try.underlying68 rfl ti68 rfl rfl rfl) rfl)) ?_
          refine rg_nam (d := 8) (v := .pt 105 0) (m := 105) (nw := [(105, .bx 68 ([.fl (.string (⟨#[]⟩)), .fl (.string (⟨#[]⟩)), .fl (.int .i64 0), .fl (.int .i64 0)]))]) rfl (og rfl (of_eff (s_alloc 105 rfl ti68 (by kernel_rfl) rfl) rfl)) rfl ?_
          refine rg_sto (nw := [(105, .bx 68 ((eLnk (ix n.lks j))))]) rfl (og rfl (of_eff (s_store rfl rfl ti68 rfl rfl rfl rfl rfl rfl) rfl)) ?_
          refine rg_done rfl ?_
          refine a_rseq ?_
          refine rg_put (d := 69) (v := .pt 105 0) rfl (og rfl (of_eff (s_field_pt rfl Try.underlying68 rfl ti9 rfl rfl rfl) rfl)) ?_
          refine rg_put (d := 70) (v := .d (.fl (.string ((ix n.lks j).fr)))) rfl (og rfl (op_load_pt rfl Try.underlying9 rfl rfl rfl rfl rfl)) ?_
          refine rg_put (d := 71) (v := .pt 105 1) rfl (og rfl (of_eff (s_field_pt rfl Try.underlying68 rfl ti9 rfl rfl rfl) rfl)) ?_
          refine rg_put (d := 72) (v := .d (.fl (.string ((ix n.lks j).to)))) rfl (og rfl (op_load_pt rfl Try.underlying9 rfl rfl rfl rfl rfl)) ?_
          refine rg_put (d := 73) (v := .d (.ag [.fl (.string ((ix n.lks j).fr)), .fl (.string ((ix n.lks j).to))])) rfl (og rfl (of_eff (op_buildA rfl Try.underlying69 ti69 ti9 (by kernel_rfl) (by kernel_rfl) (.cons rfl rfl (.d _) rfl rfl rfl (.cons rfl rfl (.d _) rfl rfl rfl .nil)) rfl) rfl)) ?_
          refine rg_nam (d := 9) (v := .pt 106 0) (m := 106) (nw := [(106, .bx 69 ([.fl (.string (⟨#[]⟩)), .fl (.string (⟨#[]⟩))]))]) rfl (og rfl (of_eff (s_alloc 106 rfl ti69 (by kernel_rfl) rfl) rfl)) rfl ?_
          refine rg_sto (nw := [(106, .bx 69 [.fl (.string ((ix n.lks j).fr)), .fl (.string ((ix n.lks j).to))])]) rfl (og rfl (of_eff (s_store rfl rfl ti69 rfl rfl rfl rfl rfl rfl) rfl)) ?_
          refine rg_done rfl ?_
          refine a_seq ?_
          refine a_block ?_
          refine a_rseq ?_
          refine rg_put (d := 75) (v := .ow 102) rfl (og rfl (op_move rfl rfl rfl)) ?_
          refine rg_put (d := 76) (v := .pt 105 0) rfl (og rfl (of_eff (s_field_pt rfl Try.underlying68 rfl ti9 rfl rfl rfl) rfl)) ?_
          refine rg_put (d := 77) (v := .d (.fl (.string ((ix n.lks j).fr)))) rfl (og rfl (op_load_pt rfl Try.underlying9 rfl rfl rfl rfl rfl)) ?_
          rcases fot ((dupP n.pts ((ix n.lks j).fr))) with h27 | h27
          · skip
            refine rg_put (d := 78) (v := .d (.fl (.bool false))) rfl (og rfl (op_lookup1 rfl Try.underlying65 Try.underlying9 rfl ti4 rfl rfl (.ow rfl) rfl (r := none) ((mfind_set Pnt.name _ _).trans (by rw [show (List.any _ _) = _ from h27]; rfl)) rfl rfl)) ?_
            refine rg_put (d := 79) (v := .d (.fl (.bool (!false)))) rfl (og rfl (op_un rfl rfl (u_not _) rfl)) ?_
            refine rg_put (d := 80) (v := .d (.fl (.bool (!false)))) rfl (og rfl (op_move rfl rfl rfl)) ?_
            refine rg_put (d := 81) (v := .d (.fl undef)) rfl (on rfl rfl rfl rfl) ?_
            refine rg_put (d := 82) (v := .d (.fl undef)) rfl (on rfl rfl rfl rfl) ?_
            refine rg_put (d := 83) (v := .d (.fl undef)) rfl (on rfl rfl rfl rfl) ?_
            refine rg_put (d := 84) (v := .d (.fl undef)) rfl (on rfl rfl rfl rfl) ?_
            refine rg_put (d := 85) (v := .d (.fl undef)) rfl (on rfl rfl rfl rfl) ?_
            refine rg_put (d := 86) (v := .d (.fl (.bool true))) rfl (og rfl (op_pick rfl rfl rfl rfl)) ?_
            refine rg_put (d := 87) (v := .d (.fl (.bool true))) rfl (og rfl (op_move rfl rfl rfl)) ?_
            refine rg_put (d := 88) (v := .d (.fl undef)) rfl (on rfl rfl rfl rfl) ?_
            refine rg_put (d := 89) (v := .d (.fl undef)) rfl (on rfl rfl rfl rfl) ?_
            refine rg_put (d := 90) (v := .d (.fl undef)) rfl (on rfl rfl rfl rfl) ?_
            refine rg_put (d := 91) (v := .d (.fl undef)) rfl (on rfl rfl rfl rfl) ?_
            refine rg_put (d := 92) (v := .d (.fl undef)) rfl (on rfl rfl rfl rfl) ?_
            refine rg_put (d := 93) (v := .d (.fl (.bool true))) rfl (og rfl (op_pick rfl rfl rfl rfl)) ?_
            refine rg_put (d := 74) (v := .d (.fl (.bool true))) rfl (og rfl (op_assign rfl rfl rfl)) ?_
            refine rg_done rfl ?_
            refine a_condK rfl rfl ?_
            refine a_rseq ?_
            refine rg_put (d := 2) (v := .d (.fl (.int .i64 16))) rfl (og rfl (op_assign rfl rfl rfl)) ?_
            refine rg_done rfl ?_
            refine a_ret ?_
            show ∃ ds, ResL _ _ _ ds ∧ RV.of ds = _
            refine ⟨[.fl (.int .i64 16)], (.cons (.tmp rfl (.d _)) .nil), ?_⟩
            have hb : lk1 n.pts n.lks j = 16 := by unfold lk1; simp only [h1, h3, h6, h25, h27, Bool.true_or, Bool.false_or, Bool.or_true, Bool.or_false, Bool.not_true, Bool.not_false, cond_true, cond_false, Bool.true_and, Bool.false_and, Bool.and_true, Bool.and_false] <;> rfl
            rw [gck_k hlim hp0, show lkE n.pts n.lks = 16 from fe_yes (by omega) hc hb (by decide)]; rfl
          · skip
            refine rg_put (d := 78) (v := .d (.fl (.bool true))) rfl (og rfl (op_lookup1 rfl Try.underlying65 Try.underlying9 rfl ti4 rfl rfl (.ow rfl) rfl (r := (some (.fl (.bool true)))) ((mfind_set Pnt.name _ _).trans (by rw [show (List.any _ _) = _ from h27]; rfl)) rfl rfl)) ?_
            refine rg_put (d := 79) (v := .d (.fl (.bool (!true)))) rfl (og rfl (op_un rfl rfl (u_not _) rfl)) ?_
            refine rg_put (d := 80) (v := .d (.fl (.bool (!true)))) rfl (og rfl (op_move rfl rfl rfl)) ?_
            refine rg_put (d := 81) (v := .ow 102) rfl (oy rfl rfl rfl rfl (op_move rfl rfl rfl)) ?_
            refine rg_put (d := 82) (v := .pt 105 1) rfl (oy rfl rfl rfl rfl (of_eff (s_field_pt rfl Try.underlying68 rfl ti9 rfl rfl rfl) rfl)) ?_
            refine rg_put (d := 83) (v := .d (.fl (.string ((ix n.lks j).to)))) rfl (oy rfl rfl rfl rfl (op_load_pt rfl Try.underlying9 rfl rfl rfl rfl rfl)) ?_
            rcases fot ((dupP n.pts ((ix n.lks j).to))) with h28 | h28
            · skip
              refine rg_put (d := 84) (v := .d (.fl (.bool false))) rfl (oy rfl rfl rfl rfl (op_lookup1 rfl Try.underlying65 Try.underlying9 rfl ti4 rfl rfl (.ow rfl) rfl (r := none) ((mfind_set Pnt.name _ _).trans (by rw [show (List.any _ _) = _ from h28]; rfl)) rfl rfl)) ?_
              refine rg_put (d := 85) (v := .d (.fl (.bool (!false)))) rfl (oy rfl rfl rfl rfl (op_un rfl rfl (u_not _) rfl)) ?_
              refine rg_put (d := 86) (v := .d (.fl (.bool (!false)))) rfl (og rfl (op_pick rfl rfl rfl rfl)) ?_
              refine rg_put (d := 87) (v := .d (.fl (.bool (!false)))) rfl (og rfl (op_move rfl rfl rfl)) ?_
              refine rg_put (d := 88) (v := .d (.fl undef)) rfl (on rfl rfl rfl rfl) ?_
              refine rg_put (d := 89) (v := .d (.fl undef)) rfl (on rfl rfl rfl rfl) ?_
              refine rg_put (d := 90) (v := .d (.fl undef)) rfl (on rfl rfl rfl rfl) ?_
              refine rg_put (d := 91) (v := .d (.fl undef)) rfl (on rfl rfl rfl rfl) ?_
              refine rg_put (d := 92) (v := .d (.fl undef)) rfl (on rfl rfl rfl rfl) ?_
              refine rg_put (d := 93) (v := .d (.fl (.bool true))) rfl (og rfl (op_pick rfl rfl rfl rfl)) ?_
              refine rg_put (d := 74) (v := .d (.fl (.bool true))) rfl (og rfl (op_assign rfl rfl rfl)) ?_
              refine rg_done rfl ?_
              refine a_condK rfl rfl ?_
              refine a_rseq ?_
              refine rg_put (d := 2) (v := .d (.fl (.int .i64 16))) rfl (og rfl (op_assign rfl rfl rfl)) ?_
              refine rg_done rfl ?_
              refine a_ret ?_
              show ∃ ds, ResL _ _ _ ds ∧ RV.of ds = _
              refine ⟨[.fl (.int .i64 16)], (.cons (.tmp rfl (.d _)) .nil), ?_⟩
              have hb : lk1 n.pts n.lks j = 16 := by unfold lk1; simp only [h1, h3, h6, h25, h27, h28, Bool.true_or, Bool.false_or, Bool.or_true, Bool.or_false, Bool.not_true, Bool.not_false, cond_true, cond_false, Bool.true_and, Bool.false_and, Bool.and_true, Bool.and_false] <;> rfl
              rw [gck_k hlim hp0, show lkE n.pts n.lks = 16 from fe_yes (by omega) hc hb (by decide)]; rfl
            · skip
              refine rg_put (d := 84) (v := .d (.fl (.bool true))) rfl (oy rfl rfl rfl rfl (op_lookup1 rfl Try.underlying65 Try.underlying9 rfl ti4 rfl rfl (.ow rfl) rfl (r := (some (.fl (.bool true)))) ((mfind_set Pnt.name _ _).trans (by rw [show (List.any _ _) = _ from h28]; rfl)) rfl rfl)) ?_
              refine rg_put (d := 85) (v := .d (.fl (.bool (!true)))) rfl (oy rfl rfl rfl rfl (op_un rfl rfl (u_not _) rfl)) ?_
              refine rg_put (d := 86) (v := .d (.fl (.bool (!true)))) rfl (og rfl (op_pick rfl rfl rfl rfl)) ?_
              refine rg_put (d := 87) (v := .d (.fl (.bool (!true)))) rfl (og rfl (op_move rfl rfl rfl)) ?_
              refine rg_put (d := 88) (v := .pt 105 0) rfl (oy rfl rfl rfl rfl (of_eff (s_field_pt rfl Try.underlying68 rfl ti9 rfl rfl rfl) rfl)) ?_
              refine rg_put (d := 89) (v := .d (.fl (.string ((ix n.lks j).fr)))) rfl (oy rfl rfl rfl rfl (op_load_pt rfl Try.underlying9 rfl rfl rfl rfl rfl)) ?_
              refine rg_put (d := 90) (v := .pt 105 1) rfl (oy rfl rfl rfl rfl (of_eff (s_field_pt rfl Try.underlying68 rfl ti9 rfl rfl rfl) rfl)) ?_
              refine rg_put (d := 91) (v := .d (.fl (.string ((ix n.lks j).to)))) rfl (oy rfl rfl rfl rfl (op_load_pt rfl Try.underlying9 rfl rfl rfl rfl rfl)) ?_
              refine rg_put (d := 92) (v := .d (.fl (.bool ((sEq ((ix n.lks j).fr) ((ix n.lks j).to)))))) rfl (oy rfl rfl rfl rfl (op_bin rfl rfl rfl (b_seq _ _ _) rfl)) ?_
              refine rg_put (d := 93) (v := .d (.fl (.bool ((sEq ((ix n.lks j).fr) ((ix n.lks j).to)))))) rfl (og rfl (op_pick rfl rfl rfl rfl)) ?_
              refine rg_put (d := 74) (v := .d (.fl (.bool ((sEq ((ix n.lks j).fr) ((ix n.lks j).to)))))) rfl (og rfl (op_assign rfl rfl rfl)) ?_
              refine rg_done rfl ?_
              refine a_cond rfl (fun h29 => ?_) (fun h29 => ?_)
              · skip
                refine a_rseq ?_
                refine rg_put (d := 2) (v := .d (.fl (.int .i64 16))) rfl (og rfl (op_assign rfl rfl rfl)) ?_
                refine rg_done rfl ?_
                refine a_ret ?_
                show ∃ ds, ResL _ _ _ ds ∧ RV.of ds = _
                refine ⟨[.fl (.int .i64 16)], (.cons (.tmp rfl (.d _)) .nil), ?_⟩
                have hb : lk1 n.pts n.lks j = 16 := by unfold lk1; simp only [h1, h3, h6, h25, h27, h28, h29, Bool.true_or, Bool.false_or, Bool.or_true, Bool.or_false, Bool.not_true, Bool.not_false, cond_true, cond_false, Bool.true_and, Bool.false_and, Bool.and_true, Bool.and_false] <;> rfl
                rw [gck_k hlim hp0, show lkE n.pts n.lks = 16 from fe_yes (by omega) hc hb (by decide)]; rfl
              · skip
                refine a_rseq ?_
                refine rg_put (d := 95) (v := .ow 104) rfl (og rfl (op_move rfl rfl rfl)) ?_
                refine rg_put (d := 96) (v := .d (.ag [.fl (.string ((ix n.lks j).fr)), .fl (.string ((ix n.lks j).to))])) rfl (og rfl (of_eff (s_load_pts rfl Try.underlying69 rfl ti69 rfl rfl rfl rfl) rfl)) ?_
                rcases fot ((dupL (n.lks.take j) (ix n.lks j).fr (ix n.lks j).to)) with h30 | h30
                · skip
                  refine rg_put (d := 97) (v := .d (.fl (.bool false))) rfl (og rfl (op_lookup1K rfl Try.underlying66 keyK69 ti4 rfl rfl (.ow rfl) (ks := [(.string ((ix n.lks j).fr)), (.string ((ix n.lks j).to))]) rfl ⟨_, _, rfl⟩ (okL _) (r := none) ((mfindL _ _ _).trans (by rw [h30]; rfl)) rfl rfl)) ?_
                  refine rg_put (d := 94) (v := .d (.fl (.bool false))) rfl (og rfl (op_assign rfl rfl rfl)) ?_
                  refine rg_done rfl ?_
                  refine a_condF rfl rfl ?_
                  refine a_rseq ?_
                  refine rg_put (d := 99) (v := .pt 105 2) rfl (og rfl (of_eff (s_field_pt rfl Try.underlying68 rfl ti3 rfl rfl rfl) rfl)) ?_
                  refine rg_put (d := 100) (v := .d (.fl (.int .i64 ((ix n.lks j).lo)))) rfl (og rfl (op_load_pt rfl Try.underlying3 rfl rfl rfl rfl rfl)) ?_
                  refine rg_put (d := 101) (v := .d (.fl (.bool ((decide ((ix n.lks j).lo < 1)))))) rfl (og rfl (op_bin rfl rfl rfl (b_lss _ _ _ _) rfl)) ?_
                  refine rg_put (d := 102) (v := .d (.fl (.bool ((decide ((ix n.lks j).lo < 1)))))) rfl (og rfl (op_move rfl rfl rfl)) ?_
                  rcases fot ((decide ((ix n.lks j).lo < 1))) with h31 | h31
                  · skip
                    have h32 := f_dec h31
                    refine rg_put (d := 103) (v := .pt 105 2) rfl (oy rfl rfl rfl h31 (of_eff (s_field_pt rfl Try.underlying68 rfl ti3 rfl rfl rfl) rfl)) ?_
                    refine rg_put (d := 104) (v := .d (.fl (.int .i64 ((ix n.lks j).lo)))) rfl (oy rfl rfl rfl h31 (op_load_pt rfl Try.underlying3 rfl rfl rfl rfl rfl)) ?_
                    refine rg_put (d := 105) (v := .pt 105 3) rfl (oy rfl rfl rfl h31 (of_eff (s_field_pt rfl Try.underlying68 rfl ti3 rfl rfl rfl) rfl)) ?_
                    refine rg_put (d := 106) (v := .d (.fl (.int .i64 ((ix n.lks j).hi)))) rfl (oy rfl rfl rfl h31 (op_load_pt rfl Try.underlying3 rfl rfl rfl rfl rfl)) ?_
                    refine rg_put (d := 107) (v := .d (.fl (.bool ((decide ((ix n.lks j).hi < (ix n.lks j).lo)))))) rfl (oy rfl rfl rfl h31 (op_bin rfl rfl rfl (b_gtr _ _ _ _) rfl)) ?_
                    refine rg_put (d := 108) (v := .d (.fl (.bool ((decide ((ix n.lks j).hi < (ix n.lks j).lo)))))) rfl (og rfl (op_pick rfl rfl (by rw [h31]; rfl) rfl)) ?_
                    refine rg_put (d := 109) (v := .d (.fl (.bool ((decide ((ix n.lks j).hi < (ix n.lks j).lo)))))) rfl (og rfl (op_move rfl rfl rfl)) ?_
                    rcases fot ((decide ((ix n.lks j).hi < (ix n.lks j).lo))) with h33 | h33
                    · skip
                      have h34 := f_dec h33
                      refine rg_put (d := 110) (v := .pt 105 3) rfl (oy rfl rfl rfl h33 (of_eff (s_field_pt rfl Try.underlying68 rfl ti3 rfl rfl rfl) rfl)) ?_
                      refine rg_put (d := 111) (v := .d (.fl (.int .i64 ((ix n.lks j).hi)))) rfl (oy rfl rfl rfl h33 (op_load_pt rfl Try.underlying3 rfl rfl rfl rfl rfl)) ?_
                      refine rg_put (d := 112) (v := .d (.fl (.bool ((decide (2147483648 < (ix n.lks j).hi)))))) rfl (oy rfl rfl rfl h33 (op_bin rfl rfl rfl (b_gtr _ _ _ _) rfl)) ?_
                      refine rg_put (d := 113) (v := .d (.fl (.bool ((decide (2147483648 < (ix n.lks j).hi)))))) rfl (og rfl (op_pick rfl rfl (by rw [h33]; rfl) rfl)) ?_
                      refine rg_put (d := 98) (v := .d (.fl (.bool ((decide (2147483648 < (ix n.lks j).hi)))))) rfl (og rfl (op_assign rfl rfl rfl)) ?_
                      refine rg_done rfl ?_
                      refine a_cond rfl (fun h35 => ?_) (fun h35 => ?_)
                      · skip
                        have h36 := t_dec h35
                        refine a_rseq ?_
                        refine rg_put (d := 2) (v := .d (.fl (.int .i64 12))) rfl (og rfl (op_assign rfl rfl rfl)) ?_
                        refine rg_done rfl ?_
                        refine a_ret ?_
                        show ∃ ds, ResL _ _ _ ds ∧ RV.of ds = _
                        refine ⟨[.fl (.int .i64 12)], (.cons (.tmp rfl (.d _)) .nil), ?_⟩
                        have hb : lk1 n.pts n.lks j = 12 := by unfold lk1; simp only [h1, h3, h6, h25, h27, h28, h29, h30, h31, h33, h35, Bool.true_or, Bool.false_or, Bool.or_true, Bool.or_false, Bool.not_true, Bool.not_false, cond_true, cond_false, Bool.true_and, Bool.false_and, Bool.and_true, Bool.and_false] <;> rfl
                        rw [gck_k hlim hp0, show lkE n.pts n.lks = 12 from fe_yes (by omega) hc hb (by decide)]; rfl
                      · skip
                        have h37 := f_dec h35
                        refine a_skip ?_
                        show A _ _ _ _ _ _ _
                        refine a_region ?_
                        refine rg_put (d := 114) (v := .ow 104) rfl (og rfl (op_move rfl rfl rfl)) ?_
                        refine rg_put (d := 115) (v := .d (.ag [.fl (.string ((ix n.lks j).fr)), .fl (.string ((ix n.lks j).to))])) rfl (og rfl (of_eff (s_load_pts rfl Try.underlying69 rfl ti69 rfl rfl rfl rfl) rfl)) ?_
                        refine rg_sto (nw := [(104, .mp ((setL (n.lks.take j)) ++ [(.agg ([(.string ((ix n.lks j).fr)), (.string ((ix n.lks j).to))] : List Value).toArray, .fl (.bool true))]))]) rfl (og rfl (op_mapPushK rfl rfl Try.underlying66 keyK69 rfl rfl (ks := [(.string ((ix n.lks j).fr)), (.string ((ix n.lks j).to))]) rfl ⟨_, _, rfl⟩ (okL _) ((mfindL _ _ _).trans (by rw [h30]; rfl)) rfl)) ?_
                        refine rg_done rfl ?_
                        show A _ _ _ _ _ _ _
                        refine a_region ?_
                        refine rg_put (d := 116) (v := .d (.fl (.int .i64 (((j : Int) + 1))))) rfl (og rfl (op_bin rfl rfl rfl (fun x y w => b_add64 _ _ _ x y w (by omega)) rfl)) ?_
                        refine rg_put (d := 65) (v := .d (.fl (.int .i64 (((j : Int) + 1))))) rfl (og rfl (op_move rfl rfl rfl)) ?_
                        refine rg_done rfl ?_
                        have hb : lk1 n.pts n.lks j = 0 := by unfold lk1; simp only [h1, h3, h6, h25, h27, h28, h29, h30, h31, h33, h35, Bool.true_or, Bool.false_or, Bool.or_true, Bool.or_false, Bool.not_true, Bool.not_false, cond_true, cond_false, Bool.true_and, Bool.false_and, Bool.and_true, Bool.and_false] <;> rfl
                        show ∃ i, _ ∧ _ ∧ Imp _ _ _ _ _
                        refine ⟨j + 1, ⟨by omega, fe_no (by omega) hc hb⟩, by omega, imp_forget rfl ⟨rfl, rfl, rfl, rfl, rfl, rfl, rfl, rfl, rfl, rfl, rfl, (by first | rfl | exact ci (by omega) | exact ci (by simp) | exact cd (by simp) | simp), trivial⟩ ⟨rfl, rfl, (congrArg (fun z => Ob.mp z) (setL_take (by omega))), trivial⟩⟩
                    · skip
                      have h38 := t_dec h33
                      refine rg_put (d := 110) (v := .d (.fl undef)) rfl (on rfl rfl rfl h33) ?_
                      refine rg_put (d := 111) (v := .d (.fl undef)) rfl (on rfl rfl rfl h33) ?_
                      refine rg_put (d := 112) (v := .d (.fl undef)) rfl (on rfl rfl rfl h33) ?_
                      refine rg_put (d := 113) (v := .d (.fl (.bool true))) rfl (og rfl (op_pick rfl rfl (by rw [h33]; rfl) rfl)) ?_
                      refine rg_put (d := 98) (v := .d (.fl (.bool true))) rfl (og rfl (op_assign rfl rfl rfl)) ?_
                      refine rg_done rfl ?_
                      refine a_condK rfl rfl ?_
                      refine a_rseq ?_
                      refine rg_put (d := 2) (v := .d (.fl (.int .i64 12))) rfl (og rfl (op_assign rfl rfl rfl)) ?_
                      refine rg_done rfl ?_
                      refine a_ret ?_
                      show ∃ ds, ResL _ _ _ ds ∧ RV.of ds = _
                      refine ⟨[.fl (.int .i64 12)], (.cons (.tmp rfl (.d _)) .nil), ?_⟩
                      have hb : lk1 n.pts n.lks j = 12 := by unfold lk1; simp only [h1, h3, h6, h25, h27, h28, h29, h30, h31, h33, Bool.true_or, Bool.false_or, Bool.or_true, Bool.or_false, Bool.not_true, Bool.not_false, cond_true, cond_false, Bool.true_and, Bool.false_and, Bool.and_true, Bool.and_false] <;> rfl
                      rw [gck_k hlim hp0, show lkE n.pts n.lks = 12 from fe_yes (by omega) hc hb (by decide)]; rfl
                  · skip
                    have h39 := t_dec h31
                    refine rg_put (d := 103) (v := .d (.fl undef)) rfl (on rfl rfl rfl h31) ?_
                    refine rg_put (d := 104) (v := .d (.fl undef)) rfl (on rfl rfl rfl h31) ?_
                    refine rg_put (d := 105) (v := .d (.fl undef)) rfl (on rfl rfl rfl h31) ?_
                    refine rg_put (d := 106) (v := .d (.fl undef)) rfl (on rfl rfl rfl h31) ?_
                    refine rg_put (d := 107) (v := .d (.fl undef)) rfl (on rfl rfl rfl h31) ?_
                    refine rg_put (d := 108) (v := .d (.fl (.bool true))) rfl (og rfl (op_pick rfl rfl (by rw [h31]; rfl) rfl)) ?_
                    refine rg_put (d := 109) (v := .d (.fl (.bool true))) rfl (og rfl (op_move rfl rfl rfl)) ?_
                    refine rg_put (d := 110) (v := .d (.fl undef)) rfl (on rfl rfl rfl rfl) ?_
                    refine rg_put (d := 111) (v := .d (.fl undef)) rfl (on rfl rfl rfl rfl) ?_
                    refine rg_put (d := 112) (v := .d (.fl undef)) rfl (on rfl rfl rfl rfl) ?_
                    refine rg_put (d := 113) (v := .d (.fl (.bool true))) rfl (og rfl (op_pick rfl rfl rfl rfl)) ?_
                    refine rg_put (d := 98) (v := .d (.fl (.bool true))) rfl (og rfl (op_assign rfl rfl rfl)) ?_
                    refine rg_done rfl ?_
                    refine a_condK rfl rfl ?_
                    refine a_rseq ?_
                    refine rg_put (d := 2) (v := .d (.fl (.int .i64 12))) rfl (og rfl (op_assign rfl rfl rfl)) ?_
                    refine rg_done rfl ?_
                    refine a_ret ?_
                    show ∃ ds, ResL _ _ _ ds ∧ RV.of ds = _
                    refine ⟨[.fl (.int .i64 12)], (.cons (.tmp rfl (.d _)) .nil), ?_⟩
                    have hb : lk1 n.pts n.lks j = 12 := by unfold lk1; simp only [h1, h3, h6, h25, h27, h28, h29, h30, h31, Bool.true_or, Bool.false_or, Bool.or_true, Bool.or_false, Bool.not_true, Bool.not_false, cond_true, cond_false, Bool.true_and, Bool.false_and, Bool.and_true, Bool.and_false] <;> rfl
                    rw [gck_k hlim hp0, show lkE n.pts n.lks = 12 from fe_yes (by omega) hc hb (by decide)]; rfl
                · skip
                  refine rg_put (d := 97) (v := .d (.fl (.bool true))) rfl (og rfl (op_lookup1K rfl Try.underlying66 keyK69 ti4 rfl rfl (.ow rfl) (ks := [(.string ((ix n.lks j).fr)), (.string ((ix n.lks j).to))]) rfl ⟨_, _, rfl⟩ (okL _) (r := (some (.fl (.bool true)))) ((mfindL _ _ _).trans (by rw [h30]; rfl)) rfl rfl)) ?_
                  refine rg_put (d := 94) (v := .d (.fl (.bool true))) rfl (og rfl (op_assign rfl rfl rfl)) ?_
                  refine rg_done rfl ?_
                  refine a_condK rfl rfl ?_
                  refine a_rseq ?_
                  refine rg_put (d := 2) (v := .d (.fl (.int .i64 9))) rfl (og rfl (op_assign rfl rfl rfl)) ?_
                  refine rg_done rfl ?_
                  refine a_ret ?_
                  show ∃ ds, ResL _ _ _ ds ∧ RV.of ds = _
                  refine ⟨[.fl (.int .i64 9)], (.cons (.tmp rfl (.d _)) .nil), ?_⟩
                  have hb : lk1 n.pts n.lks j = 9 := by unfold lk1; simp only [h1, h3, h6, h25, h27, h28, h29, h30, Bool.true_or, Bool.false_or, Bool.or_true, Bool.or_false, Bool.not_true, Bool.not_false, cond_true, cond_false, Bool.true_and, Bool.false_and, Bool.and_true, Bool.and_false] <;> rfl
                  rw [gck_k hlim hp0, show lkE n.pts n.lks = 9 from fe_yes (by omega) hc hb (by decide)]; rfl
        · skip
          have h40 := f_dec h25
          refine a_exit ?_
          show A _ _ _ _ _ _ _
          refine a_rseq ?_
          refine rg_put (d := 2) (v := .d (.fl (.int .i64 0))) rfl (og rfl (op_assign rfl rfl rfl)) ?_
          refine rg_done rfl ?_
          refine a_ret ?_
          show ∃ ds, ResL _ _ _ ds ∧ RV.of ds = _
          refine ⟨[.fl (.int .i64 0)], (.cons (.tmp rfl (.d _)) .nil), ?_⟩
          rw [gck_k hlim hp0, show lkE n.pts n.lks = 0 from by rw [fe_end (by omega)] at hc; exact hc]; rfl
  · skip
    have h41 := t_dec h1
    refine rg_put (d := 15) (v := .d (.fl undef)) rfl (on rfl rfl rfl h1) ?_
    refine rg_put (d := 16) (v := .d (.fl undef)) rfl (on rfl rfl rfl h1) ?_
    refine rg_put (d := 17) (v := .d (.fl undef)) rfl (on rfl rfl rfl h1) ?_
    refine rg_put (d := 18) (v := .d (.fl undef)) rfl (on rfl rfl rfl h1) ?_
    refine rg_put (d := 19) (v := .d (.fl (.bool true))) rfl (og rfl (op_pick rfl rfl (by rw [h1]; rfl) rfl)) ?_
    refine rg_done rfl ?_
    refine a_condK rfl rfl ?_
    refine a_rseq ?_
    refine rg_put (d := 2) (v := .d (.fl (.int .i64 3))) rfl (og rfl (op_assign rfl rfl rfl)) ?_
    refine rg_done rfl ?_
    refine a_ret ?_
    show ∃ ds, ResL _ _ _ ds ∧ RV.of ds = _
    refine ⟨[.fl (.int .i64 3)], (.cons (.tmp rfl (.d _)) .nil), ?_⟩
    rw [gck_l (by simp only [h1, Bool.true_or, Bool.false_or, Bool.or_true, Bool.or_false, Bool.not_true, Bool.not_false, cond_true, cond_false, Bool.true_and, Bool.false_and, Bool.and_true, Bool.and_false] <;> rfl)]; rfl
end Go.Proofs.Ytjbhikldmaljaaa.Wk
