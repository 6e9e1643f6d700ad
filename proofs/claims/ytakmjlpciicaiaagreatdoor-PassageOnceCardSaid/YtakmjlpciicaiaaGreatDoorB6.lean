/- Lists without what stands twice: slices.CompactFunc. No condition. -/
import Derived.Test.YtakmjlpciicaiaaGreatDoorAvW
import Derived.Test.YtakmjlpciicaiaaGreatDoorB5
set_option linter.unusedSimpArgs false
set_option linter.unusedVariables false
namespace Go.Proofs.YtakmjlpciicaiaaGreatDoor.Wk
open Go Go.RowKit Go.Proofs.YtakmjlpciicaiaaGreatDoor.Av
def dd (l : List Psg) : Nat → List Psg
  | 0 => []
  | n + 1 => bif decide (n = 0) || !(cp (ix l n) (ix l (n - 1)) == 0) then dd l n ++ [ix l n] else dd l n
def rwD (l : List Psg) (n : Nat) : List Psg := dd l n ++ l.drop (dd l n).length
theorem dd_new {l : List Psg} {n : Nat} (h : n = 0 ∨ (cp (ix l n) (ix l (n - 1)) == 0) = false) : dd l (n + 1) = dd l n ++ [ix l n] := by
  have : (decide (n = 0) || !(cp (ix l n) (ix l (n - 1)) == 0)) = true := by
    rcases h with h | h
    · rw [decide_eq_true h, Bool.true_or]
    · rw [h]; simp
  simp only [dd, this, cond_true]
theorem dd_old {l : List Psg} {n : Nat} (h0 : n ≠ 0) (h : (cp (ix l n) (ix l (n - 1)) == 0) = true) : dd l (n + 1) = dd l n := by
  have : (decide (n = 0) || !(cp (ix l n) (ix l (n - 1)) == 0)) = false := by rw [h, decide_eq_false h0]; rfl
  simp only [dd, this, cond_false]
theorem dd_len (l : List Psg) : ∀ n, (dd l n).length ≤ n
  | 0 => by simp [dd]
  | n + 1 => by
    have := dd_len l n
    simp only [dd]
    cases (decide (n = 0) || !(cp (ix l n) (ix l (n - 1)) == 0)) <;> simp only [cond_true, cond_false, List.length_append, List.length_singleton] <;> omega
theorem dd_pos (l : List Psg) : ∀ n, 0 < n → 0 < (dd l n).length
  | 0, h => by omega
  | 1, _ => by rw [dd_new (.inl rfl)]; simp
  | n + 2, _ => by
    have := dd_pos l (n + 1) (by omega)
    cases hb : (cp (ix l (n + 1)) (ix l (n + 1 - 1)) == 0) with
    | true => rw [dd_old (by omega) hb]; exact this
    | false => rw [dd_new (.inr hb), List.length_append]; omega
theorem dd_all {l : List Psg} : ∀ n, n ≤ l.length → (∀ q, 1 ≤ q → q < n → (cp (ix l q) (ix l (q - 1)) == 0) = false) → dd l n = l.take n
  | 0, _, _ => by simp [dd]
  | n + 1, h, hq => by
    have ih := dd_all n (by omega) (fun q h1 h2 => hq q h1 (by omega))
    rw [dd_new (by rcases Nat.eq_zero_or_pos n with h | h; exact .inl h; exact .inr (hq n h (by omega))), ih, take_ix (by omega)]
theorem rwD_len {l : List Psg} {n : Nat} (h : n ≤ l.length) : (rwD l n).length = l.length := by
  have := dd_len l n
  unfold rwD
  rw [List.length_append, List.length_drop]; omega
theorem ix_app {α : Type} [Inhabited α] {l m : List α} {q : Nat} (h : l.length ≤ q) : ix (l ++ m) q = ix m (q - l.length) := by
  unfold ix
  rw [List.getD_eq_getElem?_getD, List.getD_eq_getElem?_getD, List.getElem?_append_right h]
theorem ix_drop {α : Type} [Inhabited α] (l : List α) (k q : Nat) : ix (l.drop k) q = ix l (k + q) := by unfold ix; rw [List.getD_eq_getElem?_getD, List.getD_eq_getElem?_getD, List.getElem?_drop]
theorem rwD_ix {l : List Psg} {n q : Nat} (h : (dd l n).length ≤ q) : ix (rwD l n) q = ix l q := by
  unfold rwD
  rw [ix_app h, ix_drop]; congr 1; omega
theorem rwD_mem {l : List Psg} {n q : Nat} (h : n ≤ l.length) (hq : q < l.length) (hd : ∀ x ∈ dd l n, x ∈ l) : ix (rwD l n) q ∈ l := by
  have h1 : ix (rwD l n) q ∈ rwD l n := ix_mem (by rw [rwD_len h]; exact hq)
  unfold rwD at h1
  rcases List.mem_append.1 h1 with h1 | h1
  · unfold rwD; exact hd _ h1
  · unfold rwD; exact List.mem_of_mem_drop h1
theorem dd_sub {l : List Psg} : ∀ n, n ≤ l.length → ∀ x ∈ dd l n, x ∈ l
  | 0, _, x, hx => by simp [dd] at hx
  | n + 1, h, x, hx => by
    have ih := dd_sub (l := l) n (by omega) x
    simp only [dd] at hx
    cases hb : (decide (n = 0) || !(cp (ix l n) (ix l (n - 1)) == 0)) with
    | true =>
      rw [hb, cond_true] at hx
      rcases List.mem_append.1 hx with hx | hx
      · exact ih hx
      · rw [List.mem_singleton] at hx; rw [hx]; exact ix_mem (by omega)
    | false => rw [hb, cond_false] at hx; exact ih hx
theorem rwD_start {l : List Psg} {k : Nat} (h0 : 1 ≤ k) (hk : k < l.length) (hq : ∀ q, 1 ≤ q → q < k → (cp (ix l q) (ix l (q - 1)) == 0) = false) (h : (cp (ix l k) (ix l (k - 1)) == 0) = true) : rwD l (k + 1) = l ∧ (dd l (k + 1)).length = k := by
  have e : dd l (k + 1) = l.take k := (dd_old (by omega) h).trans (dd_all k (by omega) hq)
  have el : (l.take k).length = k := by rw [List.length_take]; omega
  unfold rwD
  rw [e, el, List.take_append_drop]; exact ⟨rfl, rfl⟩
theorem tD_set {α : Type} {e : α → List DV} {l : List α} {k : Nat} {x : α} {y : List OC} (hy : y = (e x).map OC.dv) : (tD e l).set k y = tD e (l.set k x) := by
  rw [hy]
  unfold tD
  rw [List.map_set, List.map_set]
theorem rwD_set {l : List Psg} {n : Nat} (hn : n < l.length) (hk : (dd l n).length < l.length) (h : (cp (ix l n) (ix l (n - 1)) == 0) = false) : (rwD l n).set (dd l n).length (ix l n) = rwD l (n + 1) := by
  unfold rwD
  rw [dd_new (.inr h), List.set_append_right _ _ (Nat.le_refl _), Nat.sub_self, List.drop_eq_getElem_cons hk, List.set_cons_zero, List.length_append, List.append_assoc]
  rfl
theorem rwD_end {l : List Psg} (n : Nat) : (rwD l n).take (dd l n).length = dd l n := by unfold rwD; rw [List.take_append, List.take_of_length_le (Nat.le_refl _), Nat.sub_self, List.take_zero, List.append_nil]

set_option maxHeartbeats 4000000 in
set_option maxRecDepth 100000 in
theorem eqD (x y : Psg) (hx : x.src.length ≤ 30) (hy : y.src.length ≤ 30) : Ctr Tryz.prog 81 [.ag (ePsg x), .ag (ePsg y)] (.d (.fl (.bool (cp x y == 0)))) := by
  refine ctr (n := 9) (rs := #[.tmp 4]) (L := [(0, .d (.ag (ePsg x))), (1, .d (.ag (ePsg y)))]) Tryz.func81 rfl rfl rfl rfl rfl (fun w0 U0 => ?_)
  refine a_rseq ?_
  refine rg_nam (d := 2) (v := .pt 101 0) (m := 101) (nw := [(101, .bx 24 (ePsg x))]) rfl (og rfl (of_eff (op_box 101 rfl rfl rfl rfl) rfl)) rfl ?_
  refine rg_nam (d := 3) (v := .pt 102 0) (m := 102) (nw := [(102, .bx 24 (ePsg y))]) rfl (og rfl (of_eff (op_box 102 rfl rfl rfl rfl) rfl)) rfl ?_
  refine rg_put (d := 4) (v := .d (.fl (.bool false))) rfl (og rfl (op_assign rfl rfl rfl)) ?_
  refine rg_done rfl ?_
  refine a_rseq ?_
  refine rg_put (d := 5) (v := .d (.ag (ePsg x))) rfl (og rfl (of_eff (s_load_pts rfl Tryz.underlying24 rfl ti24 rfl rfl rfl rfl) rfl)) ?_
  refine rg_put (d := 6) (v := .d (.ag (ePsg y))) rfl (og rfl (of_eff (s_load_pts rfl Tryz.underlying24 rfl ti24 rfl rfl rfl rfl) rfl)) ?_
  refine rg_put (d := 7) (v := .d (.fl (.int .i64 (cp x y)))) rfl (og rfl (op_call rfl Tryz.func48 nm48 rfl (.cons rfl (.d _) (.cons rfl (.d _) .nil)) (cpC x y hx hy) rfl)) ?_
  refine rg_put (d := 8) (v := .d (.fl (.bool (((cp x y) == 0))))) rfl (og rfl (op_bin rfl rfl rfl (b_eql _ _ _ _) rfl)) ?_
  refine rg_put (d := 4) (v := .d (.fl (.bool (((cp x y) == 0))))) rfl (og rfl (op_assign rfl rfl rfl)) ?_
  refine rg_done rfl ?_
  refine a_ret ?_
  show ∃ ds, ResL _ _ _ ds ∧ RV.of ds = _
  refine ⟨[.fl (.bool (((cp x y) == 0)))], (.cons (.tmp rfl (.d _)) .nil), ?_⟩
  rfl
set_option maxHeartbeats 4000000 in
set_option maxRecDepth 100000 in
theorem cptT (l : List Psg) (hl : l.length ≤ 1000) (hz : ∀ x ∈ l, x.src.length ≤ 30) : CtrT Tryz.prog 80 24 8 (tD ePsg l) [.fn 81 []] (tD ePsg (dd l l.length)) := by
  refine ctrT (n := 66) (t := 4) (L := [(1, .d (.fn 81 []))]) Tryz.func80 rfl rfl rfl rfl rfl (fun w0 U0 H0 V0 Q0 => ?_)
  refine a_rseq ?_
  refine rg_put (d := 4) (v := .d (.fl (.slice none 0 0))) rfl (og rfl (op_assign rfl rfl rfl)) ?_
  refine rg_done rfl ?_
  refine a_seq ?_
  refine a_rseq ?_
  refine rg_put (d := 8) (v := .ow 0) rfl (og rfl (op_move rfl rfl rfl)) ?_
  refine rg_put (d := 9) (v := .d (.fl (.int .i64 (((l).length : Int))))) rfl (og rfl (op_len_tr rfl Tryz.underlying38 rfl rfl tD_len rfl)) ?_
  refine rg_put (d := 10) (v := .d (.fl (.bool ((decide (((l).length : Int) < 2)))))) rfl (og rfl (op_bin rfl rfl rfl (b_lss _ _ _ _) rfl)) ?_
  refine rg_done rfl ?_
  refine a_cond rfl (fun h1 => ?_) (fun h1 => ?_)
  · skip
    have h2 := t_dec h1
    refine a_rseq ?_
    refine rg_put (d := 11) (v := .ow 0) rfl (og rfl (op_move rfl rfl rfl)) ?_
    refine rg_put (d := 4) (v := .ow 0) rfl (og rfl (op_assign rfl rfl rfl)) ?_
    refine rg_done rfl ?_
    refine a_ret ?_
    show ∃ m, _ ∧ _ ∧ _ ∧ _
    rw [show dd l l.length = l from (dd_all l.length (Nat.le_refl _) (fun q h1 h2 => by omega)).trans (List.take_of_length_le (Nat.le_refl _))]
    exact ⟨0, by decide, rfl, rfl, rfl⟩
  · skip
    have h3 := f_dec h1
    refine a_skip ?_
    show A _ _ _ _ _ _ _
    refine a_seq ?_
    refine a_rseq ?_
    refine rg_put (d := 5) (v := .d (.fl (.int .i64 1))) rfl (og rfl (op_assign rfl rfl rfl)) ?_
    refine rg_done rfl ?_
    refine a_block ?_
    refine a_loop (ι := Nat) (fun k => SS [(0, .ow 0), (1, .d (.fn 81 [])), (10, .d (.fl (.bool ((decide (((l).length : Int) < 2)))))), (5, .d (.fl (.int .i64 (k : Int))))] [(0, .tr 24 8 (tD ePsg l)), (1, .pin H0 V0 Q0)]) (fun k => 1 ≤ k ∧ k ≤ l.length ∧ ∀ q, 1 ≤ q → q < k → (cp (ix l q) (ix l (q - 1)) == 0) = false) (fun k => l.length - k) 1 (⟨by omega, by omega, fun q h1 h2 => by omega⟩) (imp_forget rfl ⟨rfl, rfl, rfl, rfl, trivial⟩ ⟨rfl, rfl, trivial⟩) (fun k hok => ?_)
    obtain ⟨hk1, hk, hq⟩ := hok
    refine a_seq ?_
    refine a_rseq ?_
    refine rg_put (d := 12) (v := .d (.fl (.int .i64 (k : Int)))) rfl (og rfl (op_move rfl rfl rfl)) ?_
    refine rg_put (d := 13) (v := .ow 0) rfl (og rfl (op_move rfl rfl rfl)) ?_
    refine rg_put (d := 14) (v := .d (.fl (.int .i64 (((l).length : Int))))) rfl (og rfl (op_len_tr rfl Tryz.underlying38 rfl rfl tD_len rfl)) ?_
    refine rg_put (d := 15) (v := .d (.fl (.bool ((decide ((k : Int) < ((l).length : Int))))))) rfl (og rfl (op_bin rfl rfl rfl (b_lss _ _ _ _) rfl)) ?_
    refine rg_done rfl ?_
    refine a_cond rfl (fun h4 => ?_) (fun h4 => ?_)
    · skip
      have h5 := t_dec h4
      refine a_skip ?_
      show A _ _ _ _ _ _ _
      refine a_seq ?_
      refine a_block ?_
      refine a_dseq (by kernel_rfl) ?_
      refine dr_put (d := 18) (v := .d (.fn 81 [])) rfl (og rfl (op_move rfl rfl rfl)) ?_
      refine dr_put (d := 19) (v := .ow 0) rfl (og rfl (op_move rfl rfl rfl)) ?_
      refine dr_put (d := 20) (v := .d (.fl (.int .i64 (k : Int)))) rfl (og rfl (op_move rfl rfl rfl)) ?_
      refine dr_put (d := 21) (v := .pe 0 8 k 0) rfl (og rfl (op_index_tr rfl Tryz.underlying38 ti24 rfl rfl rfl (get_lt (tD_at (by omega))) rfl)) ?_
      refine dr_put (d := 22) (v := .d (.ag (ePsg (ix l k)))) rfl (og rfl (of_eff (op_load_pes rfl Tryz.underlying24 rfl ti24 rfl rfl (tD_at (by omega)) rfl rfl rfl) rfl)) ?_
      refine dr_put (d := 23) (v := .ow 0) rfl (og rfl (op_move rfl rfl rfl)) ?_
      refine dr_put (d := 24) (v := .d (.fl (.int .i64 (k : Int)))) rfl (og rfl (op_move rfl rfl rfl)) ?_
      refine dr_put (d := 25) (v := .d (.fl (.int .i64 (((k : Int) - 1))))) rfl (og rfl (op_bin rfl rfl rfl (fun x y w => b_sub64 _ _ _ x y w (by omega)) rfl)) ?_
      refine dr_put (d := 26) (v := .pe 0 8 ((((k : Int) - 1)).toNat) 0) rfl (og rfl (op_index_trI rfl Tryz.underlying38 ti24 rfl rfl rfl (by omega) (get_lt (tD_at (by omega))) rfl)) ?_
      refine dr_put (d := 27) (v := .d (.ag (ePsg ((Psg.mk (((ix l ((((k : Int) - 1)).toNat))).id) (((ix l ((((k : Int) - 1)).toNat))).point) (((ix l ((((k : Int) - 1)).toNat))).time) (((ix l ((((k : Int) - 1)).toNat))).tag) (((ix l ((((k : Int) - 1)).toNat))).plate) (((ix l ((((k : Int) - 1)).toNat))).cls) (((ix l ((((k : Int) - 1)).toNat))).score) (((ix l ((((k : Int) - 1)).toNat))).src)))))) rfl (og rfl (of_eff (op_load_pes rfl Tryz.underlying24 rfl ti24 rfl rfl (tD_at (by omega)) rfl rfl rfl) rfl)) ?_
      refine dr_put (d := 28) (v := .d (.fl (.bool ((cp (ix l k) ((ix l ((((k : Int) - 1)).toNat))) == 0))))) rfl (og rfl (op_callV rfl rfl ⟨_, Tryz.func81, nm81, rfl⟩ (.cons rfl (.d _) (.cons rfl (.d _) .nil)) (eqD (ix l k) ((ix l ((((k : Int) - 1)).toNat))) (hz _ (ix_mem (by omega))) (hz _ (ix_mem (by omega)))) rfl)) ?_
      refine dr_done rfl (by kernel_rfl) (by kernel_rfl) ?_
      refine a_cond rfl (fun h6 => ?_) (fun h6 => ?_)
      · skip
        have h7 := t_beq h6
        refine a_rseq ?_
        refine rg_put (d := 29) (v := .ow 0) rfl (og rfl (op_move rfl rfl rfl)) ?_
        refine rg_put (d := 30) (v := .d (.fl (.int .i64 (k : Int)))) rfl (og rfl (op_move rfl rfl rfl)) ?_
        refine rg_put (d := 31) (v := .wn 0 k 8) rfl (og rfl (op_winD rfl Tryz.underlying38 ti24 rfl rfl rfl (k := k) (by omega) (by omega) rfl)) ?_
        refine rg_put (d := 6) (v := .wn 0 k 8) rfl (og rfl (op_assign rfl rfl rfl)) ?_
        refine rg_done rfl ?_
        refine a_seq ?_
        refine a_rseq ?_
        refine rg_put (d := 7) (v := .d (.fl (.int .i64 1))) rfl (og rfl (op_assign rfl rfl rfl)) ?_
        refine rg_done rfl ?_
        refine a_block ?_
        have hxk : (cp (ix l k) (ix l (k - 1)) == 0) = true := by have h := h6; rwa [show ((k : Int) - 1).toNat = k - 1 by omega] at h
        obtain ⟨hr1, hr2⟩ := rwD_start hk1 (by omega) hq hxk
        refine a_loop (ι := Nat) (fun j => SS [(0, .ow 0), (1, .d (.fn 81 [])), (6, .wn 0 k 8), (10, .d (.fl (.bool ((decide (((l).length : Int) < 2)))))), (15, .d (.fl (.bool ((decide ((k : Int) < ((l).length : Int))))))), (28, .d (.fl (.bool ((cp (ix l k) ((ix l ((((k : Int) - 1)).toNat))) == 0))))), (7, .d (.fl (.int .i64 (j : Int)))), (5, .d (.fl (.int .i64 (((dd l (k + j)).length : Int)))))] [(1, .pin H0 V0 Q0), (0, .tr 24 8 (tD ePsg ((rwD l (k + j)))))]) (fun j => 1 ≤ j ∧ k + j ≤ l.length ∧ (dd l (k + j)).length + 1 ≤ k + j) (fun j => l.length - (k + j)) 1 (⟨by omega, by omega, by omega⟩) (imp_forget rfl ⟨rfl, rfl, rfl, rfl, rfl, rfl, rfl, (ci (by omega)), trivial⟩ ⟨rfl, (congrArg (fun z => Ob.tr 24 8 (tD ePsg z)) hr1.symm), trivial⟩) (fun j hok => ?_)
        obtain ⟨hj1, hjl, hdl0⟩ := hok
        have hrl := rwD_len hjl
        have hp := dd_pos l (k + j) (by omega)
        have hw : ∀ q, q < l.length → (ix (rwD l (k + j)) q).src.length ≤ 30 := fun q h => hz _ (rwD_mem hjl h (dd_sub _ hjl))
        refine a_seq ?_
        refine a_rseq ?_
        refine rg_put (d := 32) (v := .d (.fl (.int .i64 (j : Int)))) rfl (og rfl (op_move rfl rfl rfl)) ?_
        refine rg_put (d := 33) (v := .wn 0 k 8) rfl (og rfl (op_move rfl rfl rfl)) ?_
        refine rg_put (d := 34) (v := .d (.fl (.int .i64 (((((rwD l (k + j))).length : Int) - (k : Int)))))) rfl (og rfl (op_len_wnD rfl Tryz.underlying38 rfl rfl (by omega) rfl)) ?_
        refine rg_put (d := 35) (v := .d (.fl (.bool ((decide ((j : Int) < ((((rwD l (k + j))).length : Int) - (k : Int)))))))) rfl (og rfl (op_bin rfl rfl rfl (b_lss _ _ _ _) rfl)) ?_
        refine rg_done rfl ?_
        refine a_cond rfl (fun h8 => ?_) (fun h8 => ?_)
        · skip
          have h9 := t_dec h8
          refine a_skip ?_
          show A _ _ _ _ _ _ _
          refine a_seq ?_
          refine a_block ?_
          refine a_dseq (by kernel_rfl) ?_
          refine dr_put (d := 38) (v := .d (.fn 81 [])) rfl (og rfl (op_move rfl rfl rfl)) ?_
          refine dr_put (d := 39) (v := .wn 0 k 8) rfl (og rfl (op_move rfl rfl rfl)) ?_
          refine dr_put (d := 40) (v := .d (.fl (.int .i64 (j : Int)))) rfl (og rfl (op_move rfl rfl rfl)) ?_
          refine dr_put (d := 41) (v := .pe 0 8 (k + j) 0) rfl (og rfl (op_index_wnD rfl Tryz.underlying38 ti24 rfl rfl rfl (j := j) (by omega) (by omega) rfl)) ?_
          refine dr_put (d := 42) (v := .d (.ag (ePsg ((Psg.mk (((ix ((rwD l (k + j))) (k + j))).id) (((ix ((rwD l (k + j))) (k + j))).point) (((ix ((rwD l (k + j))) (k + j))).time) (((ix ((rwD l (k + j))) (k + j))).tag) (((ix ((rwD l (k + j))) (k + j))).plate) (((ix ((rwD l (k + j))) (k + j))).cls) (((ix ((rwD l (k + j))) (k + j))).score) (((ix ((rwD l (k + j))) (k + j))).src)))))) rfl (og rfl (of_eff (op_load_pes rfl Tryz.underlying24 rfl ti24 rfl rfl (tD_at (by omega)) rfl rfl rfl) rfl)) ?_
          refine dr_put (d := 43) (v := .wn 0 k 8) rfl (og rfl (op_move rfl rfl rfl)) ?_
          refine dr_put (d := 44) (v := .d (.fl (.int .i64 (j : Int)))) rfl (og rfl (op_move rfl rfl rfl)) ?_
          refine dr_put (d := 45) (v := .d (.fl (.int .i64 (((j : Int) - 1))))) rfl (og rfl (op_bin rfl rfl rfl (fun x y w => b_sub64 _ _ _ x y w (by omega)) rfl)) ?_
          refine dr_put (d := 46) (v := .pe 0 8 ((k + (((j : Int) - 1)).toNat)) 0) rfl (og rfl (op_index_wnD rfl Tryz.underlying38 ti24 rfl rfl rfl (j := (((j : Int) - 1)).toNat) (by omega) (by omega) rfl)) ?_
          refine dr_put (d := 47) (v := .d (.ag (ePsg ((Psg.mk (((ix ((rwD l (k + j))) ((k + (((j : Int) - 1)).toNat)))).id) (((ix ((rwD l (k + j))) ((k + (((j : Int) - 1)).toNat)))).point) (((ix ((rwD l (k + j))) ((k + (((j : Int) - 1)).toNat)))).time) (((ix ((rwD l (k + j))) ((k + (((j : Int) - 1)).toNat)))).tag) (((ix ((rwD l (k + j))) ((k + (((j : Int) - 1)).toNat)))).plate) (((ix ((rwD l (k + j))) ((k + (((j : Int) - 1)).toNat)))).cls) (((ix ((rwD l (k + j))) ((k + (((j : Int) - 1)).toNat)))).score) (((ix ((rwD l (k + j))) ((k + (((j : Int) - 1)).toNat)))).src)))))) rfl (og rfl (of_eff (op_load_pes rfl Tryz.underlying24 rfl ti24 rfl rfl (tD_at (by omega)) rfl rfl rfl) rfl)) ?_
          refine dr_put (d := 48) (v := .d (.fl (.bool ((cp ((ix ((rwD l (k + j))) (k + j))) ((ix ((rwD l (k + j))) ((k + (((j : Int) - 1)).toNat)))) == 0))))) rfl (og rfl (op_callV rfl rfl ⟨_, Tryz.func81, nm81, rfl⟩ (.cons rfl (.d _) (.cons rfl (.d _) .nil)) (eqD ((ix ((rwD l (k + j))) (k + j))) ((ix ((rwD l (k + j))) ((k + (((j : Int) - 1)).toNat)))) (hw _ (by omega)) (hw _ (by omega))) rfl)) ?_
          refine dr_put (d := 49) (v := .d (.fl (.bool ((!((cp ((ix ((rwD l (k + j))) (k + j))) ((ix ((rwD l (k + j))) ((k + (((j : Int) - 1)).toNat)))) == 0))))))) rfl (og rfl (op_un rfl rfl (u_not _) rfl)) ?_
          refine dr_done rfl (by kernel_rfl) (by kernel_rfl) ?_
          refine a_cond rfl (fun h10 => ?_) (fun h10 => ?_)
          · skip
            have h11 := t_not h10
            have h12 := f_beq h11
            refine a_rseq ?_
            refine rg_put (d := 50) (v := .ow 0) rfl (og rfl (op_move rfl rfl rfl)) ?_
            refine rg_put (d := 51) (v := .d (.fl (.int .i64 (((dd l (k + j)).length : Int))))) rfl (og rfl (op_move rfl rfl rfl)) ?_
            refine rg_put (d := 52) (v := .wn 0 k 8) rfl (og rfl (op_move rfl rfl rfl)) ?_
            refine rg_put (d := 53) (v := .d (.fl (.int .i64 (j : Int)))) rfl (og rfl (op_move rfl rfl rfl)) ?_
            refine rg_put (d := 54) (v := .pe 0 8 (k + j) 0) rfl (og rfl (op_index_wnD rfl Tryz.underlying38 ti24 rfl rfl rfl (j := j) (by omega) (by omega) rfl)) ?_
            refine rg_put (d := 55) (v := .d (.ag (ePsg ((Psg.mk (((ix ((rwD l (k + j))) (k + j))).id) (((ix ((rwD l (k + j))) (k + j))).point) (((ix ((rwD l (k + j))) (k + j))).time) (((ix ((rwD l (k + j))) (k + j))).tag) (((ix ((rwD l (k + j))) (k + j))).plate) (((ix ((rwD l (k + j))) (k + j))).cls) (((ix ((rwD l (k + j))) (k + j))).score) (((ix ((rwD l (k + j))) (k + j))).src)))))) rfl (og rfl (of_eff (op_load_pes rfl Tryz.underlying24 rfl ti24 rfl rfl (tD_at (by omega)) rfl rfl rfl) rfl)) ?_
            refine rg_put (d := 56) (v := .pe 0 8 ((dd l (k + j)).length) 0) rfl (og rfl (op_index_tr rfl Tryz.underlying38 ti24 rfl rfl rfl (get_lt (tD_at (by omega))) rfl)) ?_
            refine rg_sto (nw := [(0, .tr 24 8 ((((tD ePsg ((rwD l (k + j))))).set ((dd l (k + j)).length) [.dv (.fl (.string (((Psg.mk (((ix ((rwD l (k + j))) (k + j))).id) (((ix ((rwD l (k + j))) (k + j))).point) (((ix ((rwD l (k + j))) (k + j))).time) (((ix ((rwD l (k + j))) (k + j))).tag) (((ix ((rwD l (k + j))) (k + j))).plate) (((ix ((rwD l (k + j))) (k + j))).cls) (((ix ((rwD l (k + j))) (k + j))).score) (((ix ((rwD l (k + j))) (k + j))).src))).id))), .dv (.fl (.string (((Psg.mk (((ix ((rwD l (k + j))) (k + j))).id) (((ix ((rwD l (k + j))) (k + j))).point) (((ix ((rwD l (k + j))) (k + j))).time) (((ix ((rwD l (k + j))) (k + j))).tag) (((ix ((rwD l (k + j))) (k + j))).plate) (((ix ((rwD l (k + j))) (k + j))).cls) (((ix ((rwD l (k + j))) (k + j))).score) (((ix ((rwD l (k + j))) (k + j))).src))).point))), .dv (.fl (.int .i64 (((Psg.mk (((ix ((rwD l (k + j))) (k + j))).id) (((ix ((rwD l (k + j))) (k + j))).point) (((ix ((rwD l (k + j))) (k + j))).time) (((ix ((rwD l (k + j))) (k + j))).tag) (((ix ((rwD l (k + j))) (k + j))).plate) (((ix ((rwD l (k + j))) (k + j))).cls) (((ix ((rwD l (k + j))) (k + j))).score) (((ix ((rwD l (k + j))) (k + j))).src))).time))), .dv (.fl (.string (((Psg.mk (((ix ((rwD l (k + j))) (k + j))).id) (((ix ((rwD l (k + j))) (k + j))).point) (((ix ((rwD l (k + j))) (k + j))).time) (((ix ((rwD l (k + j))) (k + j))).tag) (((ix ((rwD l (k + j))) (k + j))).plate) (((ix ((rwD l (k + j))) (k + j))).cls) (((ix ((rwD l (k + j))) (k + j))).score) (((ix ((rwD l (k + j))) (k + j))).src))).tag))), .dv (.fl (.string (((Psg.mk (((ix ((rwD l (k + j))) (k + j))).id) (((ix ((rwD l (k + j))) (k + j))).point) (((ix ((rwD l (k + j))) (k + j))).time) (((ix ((rwD l (k + j))) (k + j))).tag) (((ix ((rwD l (k + j))) (k + j))).plate) (((ix ((rwD l (k + j))) (k + j))).cls) (((ix ((rwD l (k + j))) (k + j))).score) (((ix ((rwD l (k + j))) (k + j))).src))).plate))), .dv (.fl (.int .i64 (((Psg.mk (((ix ((rwD l (k + j))) (k + j))).id) (((ix ((rwD l (k + j))) (k + j))).point) (((ix ((rwD l (k + j))) (k + j))).time) (((ix ((rwD l (k + j))) (k + j))).tag) (((ix ((rwD l (k + j))) (k + j))).plate) (((ix ((rwD l (k + j))) (k + j))).cls) (((ix ((rwD l (k + j))) (k + j))).score) (((ix ((rwD l (k + j))) (k + j))).src))).cls))), .dv (.fl (.int .i64 (((Psg.mk (((ix ((rwD l (k + j))) (k + j))).id) (((ix ((rwD l (k + j))) (k + j))).point) (((ix ((rwD l (k + j))) (k + j))).time) (((ix ((rwD l (k + j))) (k + j))).tag) (((ix ((rwD l (k + j))) (k + j))).plate) (((ix ((rwD l (k + j))) (k + j))).cls) (((ix ((rwD l (k + j))) (k + j))).score) (((ix ((rwD l (k + j))) (k + j))).src))).score))), .dv (.sl 2 (List.map eSrc (((Psg.mk (((ix ((rwD l (k + j))) (k + j))).id) (((ix ((rwD l (k + j))) (k + j))).point) (((ix ((rwD l (k + j))) (k + j))).time) (((ix ((rwD l (k + j))) (k + j))).tag) (((ix ((rwD l (k + j))) (k + j))).plate) (((ix ((rwD l (k + j))) (k + j))).cls) (((ix ((rwD l (k + j))) (k + j))).score) (((ix ((rwD l (k + j))) (k + j))).src))).src)))])))]) rfl (og rfl (of_eff (op_store_pe rfl rfl ti24 rfl rfl (tD_at (by omega)) rfl (.d rfl) rfl rfl rfl) rfl)) ?_
            refine rg_done rfl ?_
            refine a_region ?_
            refine rg_put (d := 57) (v := .d (.fl (.int .i64 (((dd l (k + j)).length : Int))))) rfl (og rfl (op_move rfl rfl rfl)) ?_
            refine rg_put (d := 58) (v := .d (.fl (.int .i64 ((((dd l (k + j)).length : Int) + 1))))) rfl (og rfl (op_bin rfl rfl rfl (fun x y w => b_add64 _ _ _ x y w (by omega)) rfl)) ?_
            refine rg_put (d := 5) (v := .d (.fl (.int .i64 ((((dd l (k + j)).length : Int) + 1))))) rfl (og rfl (op_assign rfl rfl rfl)) ?_
            refine rg_done rfl ?_
            show A _ _ _ _ _ _ _
            refine a_region ?_
            refine rg_put (d := 36) (v := .d (.fl (.int .i64 (j : Int)))) rfl (og rfl (op_move rfl rfl rfl)) ?_
            refine rg_put (d := 37) (v := .d (.fl (.int .i64 (((j : Int) + 1))))) rfl (og rfl (op_bin rfl rfl rfl (fun x y w => b_add64 _ _ _ x y w (by omega)) rfl)) ?_
            refine rg_put (d := 7) (v := .d (.fl (.int .i64 (((j : Int) + 1))))) rfl (og rfl (op_assign rfl rfl rfl)) ?_
            refine rg_done rfl ?_
            have hc := h11
            rw [rwD_ix (by omega), rwD_ix (by omega), show k + ((j : Int) - 1).toNat = k + j - 1 by omega] at hc
            have hd := dd_new (.inr hc)
            have hdl : (dd l (k + (j + 1))).length = (dd l (k + j)).length + 1 := (congrArg List.length hd).trans (by rw [List.length_append]; rfl)
            have hst : (((tD ePsg ((rwD l (k + j))))).set ((dd l (k + j)).length) [.dv (.fl (.string (((Psg.mk (((ix ((rwD l (k + j))) (k + j))).id) (((ix ((rwD l (k + j))) (k + j))).point) (((ix ((rwD l (k + j))) (k + j))).time) (((ix ((rwD l (k + j))) (k + j))).tag) (((ix ((rwD l (k + j))) (k + j))).plate) (((ix ((rwD l (k + j))) (k + j))).cls) (((ix ((rwD l (k + j))) (k + j))).score) (((ix ((rwD l (k + j))) (k + j))).src))).id))), .dv (.fl (.string (((Psg.mk (((ix ((rwD l (k + j))) (k + j))).id) (((ix ((rwD l (k + j))) (k + j))).point) (((ix ((rwD l (k + j))) (k + j))).time) (((ix ((rwD l (k + j))) (k + j))).tag) (((ix ((rwD l (k + j))) (k + j))).plate) (((ix ((rwD l (k + j))) (k + j))).cls) (((ix ((rwD l (k + j))) (k + j))).score) (((ix ((rwD l (k + j))) (k + j))).src))).point))), .dv (.fl (.int .i64 (((Psg.mk (((ix ((rwD l (k + j))) (k + j))).id) (((ix ((rwD l (k + j))) (k + j))).point) (((ix ((rwD l (k + j))) (k + j))).time) (((ix ((rwD l (k + j))) (k + j))).tag) (((ix ((rwD l (k + j))) (k + j))).plate) (((ix ((rwD l (k + j))) (k + j))).cls) (((ix ((rwD l (k + j))) (k + j))).score) (((ix ((rwD l (k + j))) (k + j))).src))).time))), .dv (.fl (.string (((Psg.mk (((ix ((rwD l (k + j))) (k + j))).id) (((ix ((rwD l (k + j))) (k + j))).point) (((ix ((rwD l (k + j))) (k + j))).time) (((ix ((rwD l (k + j))) (k + j))).tag) (((ix ((rwD l (k + j))) (k + j))).plate) (((ix ((rwD l (k + j))) (k + j))).cls) (((ix ((rwD l (k + j))) (k + j))).score) (((ix ((rwD l (k + j))) (k + j))).src))).tag))), .dv (.fl (.string (((Psg.mk (((ix ((rwD l (k + j))) (k + j))).id) (((ix ((rwD l (k + j))) (k + j))).point) (((ix ((rwD l (k + j))) (k + j))).time) (((ix ((rwD l (k + j))) (k + j))).tag) (((ix ((rwD l (k + j))) (k + j))).plate) (((ix ((rwD l (k + j))) (k + j))).cls) (((ix ((rwD l (k + j))) (k + j))).score) (((ix ((rwD l (k + j))) (k + j))).src))).plate))), .dv (.fl (.int .i64 (((Psg.mk (((ix ((rwD l (k + j))) (k + j))).id) (((ix ((rwD l (k + j))) (k + j))).point) (((ix ((rwD l (k + j))) (k + j))).time) (((ix ((rwD l (k + j))) (k + j))).tag) (((ix ((rwD l (k + j))) (k + j))).plate) (((ix ((rwD l (k + j))) (k + j))).cls) (((ix ((rwD l (k + j))) (k + j))).score) (((ix ((rwD l (k + j))) (k + j))).src))).cls))), .dv (.fl (.int .i64 (((Psg.mk (((ix ((rwD l (k + j))) (k + j))).id) (((ix ((rwD l (k + j))) (k + j))).point) (((ix ((rwD l (k + j))) (k + j))).time) (((ix ((rwD l (k + j))) (k + j))).tag) (((ix ((rwD l (k + j))) (k + j))).plate) (((ix ((rwD l (k + j))) (k + j))).cls) (((ix ((rwD l (k + j))) (k + j))).score) (((ix ((rwD l (k + j))) (k + j))).src))).score))), .dv (.sl 2 (List.map eSrc (((Psg.mk (((ix ((rwD l (k + j))) (k + j))).id) (((ix ((rwD l (k + j))) (k + j))).point) (((ix ((rwD l (k + j))) (k + j))).time) (((ix ((rwD l (k + j))) (k + j))).tag) (((ix ((rwD l (k + j))) (k + j))).plate) (((ix ((rwD l (k + j))) (k + j))).cls) (((ix ((rwD l (k + j))) (k + j))).score) (((ix ((rwD l (k + j))) (k + j))).src))).src)))]) = tD ePsg (rwD l (k + (j + 1))) := (tD_set (x := ix (rwD l (k + j)) (k + j)) rfl).trans (by rw [rwD_ix (q := k + j) (by omega)]; exact congrArg (tD ePsg) (rwD_set (by omega) (by omega) hc))
            show ∃ i, _ ∧ _ ∧ Imp _ _ _ _ _
            refine ⟨j + 1, ⟨by omega, by omega, by omega⟩, by omega, imp_forget rfl ⟨rfl, rfl, rfl, rfl, rfl, rfl, (ci (by omega)), (ci (by omega)), trivial⟩ ⟨rfl, (congrArg (fun z => Ob.tr 24 8 z) hst), trivial⟩⟩
          · skip
            have h13 := f_not h10
            have h14 := t_beq h13
            refine a_skip ?_
            show A _ _ _ _ _ _ _
            refine a_region ?_
            refine rg_put (d := 36) (v := .d (.fl (.int .i64 (j : Int)))) rfl (og rfl (op_move rfl rfl rfl)) ?_
            refine rg_put (d := 37) (v := .d (.fl (.int .i64 (((j : Int) + 1))))) rfl (og rfl (op_bin rfl rfl rfl (fun x y w => b_add64 _ _ _ x y w (by omega)) rfl)) ?_
            refine rg_put (d := 7) (v := .d (.fl (.int .i64 (((j : Int) + 1))))) rfl (og rfl (op_assign rfl rfl rfl)) ?_
            refine rg_done rfl ?_
            have hc := h13
            rw [rwD_ix (by omega), rwD_ix (by omega), show k + ((j : Int) - 1).toNat = k + j - 1 by omega] at hc
            have hd := dd_old (by omega) hc
            have hdl : (dd l (k + (j + 1))).length = (dd l (k + j)).length := congrArg List.length hd
            have hst : tD ePsg (rwD l (k + j)) = tD ePsg (rwD l (k + (j + 1))) := by unfold rwD; rw [show dd l (k + (j + 1)) = dd l (k + j) from hd]
            show ∃ i, _ ∧ _ ∧ Imp _ _ _ _ _
            refine ⟨j + 1, ⟨by omega, by omega, by omega⟩, by omega, imp_forget rfl ⟨rfl, rfl, rfl, rfl, rfl, rfl, (ci (by omega)), (ci (by omega)), trivial⟩ ⟨rfl, (congrArg (fun z => Ob.tr 24 8 z) hst), trivial⟩⟩
        · skip
          have h15 := f_dec h8
          refine a_exit ?_
          show A _ _ _ _ _ _ _
          refine a_rseq ?_
          have hkj : k + j = l.length := by omega
          rw [show (k + j) = l.length from hkj]
          rw [hkj] at hrl hp hdl0
          refine rg_put (d := 59) (v := .ow 0) rfl (og rfl (op_move rfl rfl rfl)) ?_
          refine rg_put (d := 60) (v := .d (.fl (.int .i64 (((dd l l.length).length : Int))))) rfl (og rfl (op_move rfl rfl rfl)) ?_
          refine rg_put (d := 61) (v := .wn 0 ((dd l l.length).length) 8) rfl (og rfl (op_winD rfl Tryz.underlying38 ti24 rfl rfl rfl (k := (dd l l.length).length) (by omega) (by omega) rfl)) ?_
          refine rg_sto (nw := [(0, .tr 24 8 (tD ePsg (((rwD l l.length).take ((dd l l.length).length))) ++ List.replicate ((rwD l l.length).length - ((dd l l.length).length)) (List.replicate 8 OC.un)))]) rfl (og rfl (of_eff (op_clear_wn rfl Tryz.underlying38 ti24 rfl (by kernel_rfl) (enc := ePsg) (fun _ => rfl) rfl rfl (by omega) rfl) rfl)) ?_
          refine rg_done rfl ?_
          refine a_rseq ?_
          have htk : ((rwD l l.length).take (dd l l.length).length).length = (dd l l.length).length := by rw [rwD_end]
          refine rg_put (d := 62) (v := .ow 0) rfl (og rfl (op_move rfl rfl rfl)) ?_
          refine rg_put (d := 63) (v := .d (.fl (.int .i64 (((dd l l.length).length : Int))))) rfl (og rfl (op_move rfl rfl rfl)) ?_
          refine rg_nam (d := 64) (v := .ow 101) (m := 101) (nw := [(101, .tr 24 8 (tD ePsg (((rwD l l.length).take ((dd l l.length).length))))), (0, .no)]) rfl (og rfl (of_eff (op_sliceOwnZ 101 rfl Tryz.underlying38 ti24 (enc := ePsg) (A := ((rwD l l.length).take ((dd l l.length).length))) (fun _ => rfl) rfl rfl rfl (by omega) (by omega) rfl) rfl)) rfl ?_
          refine rg_put (d := 4) (v := .ow 101) rfl (og rfl (op_assign rfl rfl rfl)) ?_
          refine rg_done rfl ?_
          refine a_ret ?_
          show ∃ m, _ ∧ _ ∧ _ ∧ _
          rw [rwD_end]
          exact ⟨101, by decide, rfl, rfl, rfl⟩
      · skip
        have h16 := f_beq h6
        refine a_skip ?_
        show A _ _ _ _ _ _ _
        refine a_region ?_
        refine rg_put (d := 16) (v := .d (.fl (.int .i64 (k : Int)))) rfl (og rfl (op_move rfl rfl rfl)) ?_
        refine rg_put (d := 17) (v := .d (.fl (.int .i64 (((k : Int) + 1))))) rfl (og rfl (op_bin rfl rfl rfl (fun x y w => b_add64 _ _ _ x y w (by omega)) rfl)) ?_
        refine rg_put (d := 5) (v := .d (.fl (.int .i64 (((k : Int) + 1))))) rfl (og rfl (op_assign rfl rfl rfl)) ?_
        refine rg_done rfl ?_
        have hx : (cp (ix l k) (ix l (k - 1)) == 0) = false := by have h := h6; rwa [show ((k : Int) - 1).toNat = k - 1 by omega] at h
        show ∃ i, _ ∧ _ ∧ Imp _ _ _ _ _
        refine ⟨k + 1, ⟨by omega, by omega, fun q h1 h2 => (Nat.lt_succ_iff_lt_or_eq.1 h2).elim (hq q h1) (fun e => by rw [e]; exact hx)⟩, by omega, imp_forget rfl ⟨rfl, rfl, rfl, (ci (by omega)), trivial⟩ ⟨rfl, rfl, trivial⟩⟩
    · skip
      have h17 := f_dec h4
      refine a_exit ?_
      show A _ _ _ _ _ _ _
      refine a_rseq ?_
      refine rg_put (d := 65) (v := .ow 0) rfl (og rfl (op_move rfl rfl rfl)) ?_
      refine rg_put (d := 4) (v := .ow 0) rfl (og rfl (op_assign rfl rfl rfl)) ?_
      refine rg_done rfl ?_
      refine a_ret ?_
      show ∃ m, _ ∧ _ ∧ _ ∧ _
      rw [show dd l l.length = l from (dd_all l.length (Nat.le_refl _) (fun q h1 h2 => hq q h1 (by omega))).trans (List.take_of_length_le (Nat.le_refl _))]
      exact ⟨0, by decide, rfl, rfl, rfl⟩
end Go.Proofs.YtakmjlpciicaiaaGreatDoor.Wk
