/- Clocks and outages of devices, both sides. Conditions: lists that are not too long. -/
import Derived.Test.YtgelodnkfajgjaaGreatDoorTd
set_option linter.unusedSimpArgs false
set_option linter.unusedVariables false
set_option linter.unusedSimpArgs false
set_option linter.unusedVariables false
namespace Go.Proofs.YtgelodnkfajgjaaGreatDoor.Dw
open Go Go.RowKit Go.Proofs.YtgelodnkfajgjaaGreatDoor.Av Go.Proofs.YtgelodnkfajgjaaGreatDoor.Wk
theorem ix_eq {α : Type} [Inhabited α] {l : List α} {i : Nat} (h : i < l.length) : l[i] = ix l i := by
  have := ix_get h
  rw [List.getElem?_eq_getElem h] at this
  injection this
theorem ix_mem {α : Type} [Inhabited α] {l : List α} {k : Nat} (h : k < l.length) : ix l k ∈ l := by rw [← ix_eq h]; exact List.getElem_mem h
theorem mem_ix {α : Type} [Inhabited α] {l : List α} {x : α} (h : x ∈ l) : ∃ k, k < l.length ∧ ix l k = x := by
  obtain ⟨j, hj, he⟩ := List.mem_iff_getElem.1 h
  exact ⟨j, hj, by rw [← ix_eq hj]; exact he⟩
theorem any_at {α : Type} [Inhabited α] {p : α → Bool} {l : List α} {k : Nat} (hk : k < l.length) (hp : p (ix l k) = true) : l.any p = true := by
  rw [List.any_eq_true]; exact ⟨_, ix_mem hk, hp⟩
theorem any_no {α : Type} [Inhabited α] {p : α → Bool} {l : List α} (h : ∀ q, q < l.length → p (ix l q) = false) : l.any p = false := by
  rw [List.any_eq_false]
  intro x hx
  obtain ⟨k, hk, he⟩ := mem_ix hx
  rw [← he, h k hk]; simp
def isT (t : Int) : Bool := decide (0 ≤ t) && decide (t < 68719476736)
theorem isT_t {t : Int} : isT t = true ↔ 0 ≤ t ∧ t < 68719476736 := by simp [isT]
def vI (i : Iv) : Bool := (decide (0 ≤ i.fr) && decide (i.fr < i.to)) && decide (i.to ≤ 68719476736)
def hasI (i : Iv) (t : Int) : Bool := (vI i && decide (i.fr ≤ t)) && decide (t < i.to)
def hasL (l : List Iv) (t : Int) : Bool := l.any fun i => hasI i t
def wrk (d : Dc) (t : Int) : Bool := isT t && !(hasL d.down t)
theorem wrk_no {d : Dc} {t : Int} (h : isT t = false) : wrk d t = false := by unfold wrk; rw [h]; rfl
theorem wrk_has {d : Dc} {t : Int} (h1 : isT t = true) {b : Bool} (h2 : hasL d.down t = b) : wrk d t = !b := by unfold wrk; rw [h1, h2]; rfl
def dl (l : List Of) (raw : Int) : Nat → Int
  | 0 => 0
  | k + 1 => if decide ((ix l k).fr ≤ raw) = true then (ix l k).dl else dl l raw k
theorem dl_yes {l : List Of} {raw : Int} {k : Nat} (h : decide ((ix l k).fr ≤ raw) = true) : (ix l k).dl = dl l raw (k + 1) := by show _ = (if _ then _ else _); rw [if_pos h]
theorem dl_no {l : List Of} {raw : Int} {k : Nat} (h : decide ((ix l k).fr ≤ raw) = false) : dl l raw k = dl l raw (k + 1) := by show _ = (if _ then _ else _); rw [if_neg (by rw [h]; decide)]
def clk (d : Dc) (raw : Int) : Int × Bool := if isT raw = false then (0, false) else if isT (raw + dl d.offs raw d.offs.length) = false then (0, false) else (raw + dl d.offs raw d.offs.length, true)
theorem clk_raw {d : Dc} {raw : Int} (h : isT raw = false) : clk d raw = (0, false) := if_pos h
theorem clk_no {d : Dc} {raw : Int} (h : isT (raw + dl d.offs raw d.offs.length) = false) : clk d raw = (0, false) := by
  unfold clk
  rw [if_pos h]
  split <;> rfl
theorem clk_ok {d : Dc} {raw : Int} (h1 : isT raw = true) (h : isT (raw + dl d.offs raw d.offs.length) = true) : clk d raw = (raw + dl d.offs raw d.offs.length, true) := by
  unfold clk
  rw [if_neg (by rw [h1]; decide), if_neg (by rw [h]; decide)]
theorem dl_in {l : List Of} {raw : Int} (hl : ∀ o ∈ l, -9223372036854775808 ≤ o.dl ∧ o.dl ≤ 9223372036854775807) : ∀ k, k ≤ l.length → -9223372036854775808 ≤ dl l raw k ∧ dl l raw k ≤ 9223372036854775807
  | 0, _ => by show (-9223372036854775808 : Int) ≤ 0 ∧ (0 : Int) ≤ _; omega
  | k + 1, h => by
    show _ ≤ (if _ then _ else _) ∧ (if _ then _ else _) ≤ _
    split
    · exact hl _ (ix_mem (by omega))
    · exact dl_in hl k (by omega)
theorem wrap_time {raw d : Int} (h1 : 0 ≤ raw ∧ raw < 68719476736) (h2 : -9223372036854775808 ≤ d ∧ d ≤ 9223372036854775807) : isT (IntKind.i64.wrap (raw + d)) = isT (raw + d) := by
  rw [Bool.eq_iff_iff, isT_t, isT_t, IntKind.wrap_i64]
  omega
theorem wrap_is {raw d : Int} (h2 : isT (raw + d) = true) : IntKind.i64.wrap (raw + d) = raw + d := by
  have := isT_t.1 h2
  rw [IntKind.wrap_i64]; omega
set_option maxHeartbeats 4000000 in
set_option maxRecDepth 100000 in
theorem vI34 (i : Iv) : Ctr Tryz.prog 163 [.ag (eIv i)] (.d (.fl (.bool (vI i)))) := by
  refine ctr (n := 18) (rs := #[.tmp 2]) (L := [(0, .d (.ag (eIv i)))]) Tryz.func163 rfl rfl rfl rfl rfl (fun w0 U0 => ?_)
  refine a_rseq ?_
  refine rg_nam (d := 1) (v := .pt 101 0) (m := 101) (nw := [(101, .bx 137 (eIv i))]) rfl (og rfl (of_eff (op_box 101 rfl rfl rfl rfl) rfl)) rfl ?_
  refine rg_put (d := 2) (v := .d (.fl (.bool false))) rfl (og rfl (op_assign rfl rfl rfl)) ?_
  refine rg_done rfl ?_
  refine a_rseq ?_
  refine rg_put (d := 3) (v := .pt 101 0) rfl (og rfl (of_eff (s_field_pt rfl Tryz.underlying137 rfl ti3 rfl rfl rfl) rfl)) ?_
  refine rg_put (d := 4) (v := .d (.fl (.int .i64 i.fr))) rfl (og rfl (op_load_pt rfl Tryz.underlying3 rfl rfl rfl rfl rfl)) ?_
  refine rg_put (d := 5) (v := .d (.fl (.bool ((decide (0 ≤ i.fr)))))) rfl (og rfl (op_bin rfl rfl rfl (b_leq _ _ _ _) rfl)) ?_
  refine rg_put (d := 6) (v := .d (.fl (.bool ((decide (0 ≤ i.fr)))))) rfl (og rfl (op_move rfl rfl rfl)) ?_
  rcases fot ((decide (0 ≤ i.fr))) with h1 | h1
  · skip
    have h2 := f_dec h1
    refine rg_put (d := 7) (v := .d (.fl undef)) rfl (on rfl rfl rfl h1) ?_
    refine rg_put (d := 8) (v := .d (.fl undef)) rfl (on rfl rfl rfl h1) ?_
    refine rg_put (d := 9) (v := .d (.fl undef)) rfl (on rfl rfl rfl h1) ?_
    refine rg_put (d := 10) (v := .d (.fl undef)) rfl (on rfl rfl rfl h1) ?_
    refine rg_put (d := 11) (v := .d (.fl undef)) rfl (on rfl rfl rfl h1) ?_
    refine rg_put (d := 12) (v := .d (.fl (.bool false))) rfl (og rfl (op_pick rfl rfl (by rw [h1]; rfl) rfl)) ?_
    refine rg_put (d := 13) (v := .d (.fl (.bool false))) rfl (og rfl (op_move rfl rfl rfl)) ?_
    refine rg_put (d := 14) (v := .d (.fl undef)) rfl (on rfl rfl rfl rfl) ?_
    refine rg_put (d := 15) (v := .d (.fl undef)) rfl (on rfl rfl rfl rfl) ?_
    refine rg_put (d := 16) (v := .d (.fl undef)) rfl (on rfl rfl rfl rfl) ?_
    refine rg_put (d := 17) (v := .d (.fl (.bool false))) rfl (og rfl (op_pick rfl rfl rfl rfl)) ?_
    refine rg_put (d := 2) (v := .d (.fl (.bool false))) rfl (og rfl (op_assign rfl rfl rfl)) ?_
    refine rg_done rfl ?_
    refine a_ret ?_
    show ∃ ds, ResL _ _ _ ds ∧ RV.of ds = _
    refine ⟨[.fl (.bool false)], (.cons (.tmp rfl (.d _)) .nil), ?_⟩
    have hu : vI i = false := by
      unfold vI; simp only [h1, Bool.true_and, Bool.false_and, Bool.and_true, Bool.and_false] <;> rfl
    rw [hu]; rfl
  · skip
    have h3 := t_dec h1
    refine rg_put (d := 7) (v := .pt 101 0) rfl (oy rfl rfl rfl h1 (of_eff (s_field_pt rfl Tryz.underlying137 rfl ti3 rfl rfl rfl) rfl)) ?_
    refine rg_put (d := 8) (v := .d (.fl (.int .i64 i.fr))) rfl (oy rfl rfl rfl h1 (op_load_pt rfl Tryz.underlying3 rfl rfl rfl rfl rfl)) ?_
    refine rg_put (d := 9) (v := .pt 101 1) rfl (oy rfl rfl rfl h1 (of_eff (s_field_pt rfl Tryz.underlying137 rfl ti3 rfl rfl rfl) rfl)) ?_
    refine rg_put (d := 10) (v := .d (.fl (.int .i64 i.to))) rfl (oy rfl rfl rfl h1 (op_load_pt rfl Tryz.underlying3 rfl rfl rfl rfl rfl)) ?_
    refine rg_put (d := 11) (v := .d (.fl (.bool ((decide (i.fr < i.to)))))) rfl (oy rfl rfl rfl h1 (op_bin rfl rfl rfl (b_lss _ _ _ _) rfl)) ?_
    refine rg_put (d := 12) (v := .d (.fl (.bool ((decide (i.fr < i.to)))))) rfl (og rfl (op_pick rfl rfl (by rw [h1]; rfl) rfl)) ?_
    refine rg_put (d := 13) (v := .d (.fl (.bool ((decide (i.fr < i.to)))))) rfl (og rfl (op_move rfl rfl rfl)) ?_
    rcases fot ((decide (i.fr < i.to))) with h4 | h4
    · skip
      have h5 := f_dec h4
      refine rg_put (d := 14) (v := .d (.fl undef)) rfl (on rfl rfl rfl h4) ?_
      refine rg_put (d := 15) (v := .d (.fl undef)) rfl (on rfl rfl rfl h4) ?_
      refine rg_put (d := 16) (v := .d (.fl undef)) rfl (on rfl rfl rfl h4) ?_
      refine rg_put (d := 17) (v := .d (.fl (.bool false))) rfl (og rfl (op_pick rfl rfl (by rw [h4]; rfl) rfl)) ?_
      refine rg_put (d := 2) (v := .d (.fl (.bool false))) rfl (og rfl (op_assign rfl rfl rfl)) ?_
      refine rg_done rfl ?_
      refine a_ret ?_
      show ∃ ds, ResL _ _ _ ds ∧ RV.of ds = _
      refine ⟨[.fl (.bool false)], (.cons (.tmp rfl (.d _)) .nil), ?_⟩
      have hu : vI i = false := by
        unfold vI; simp only [h1, h4, Bool.true_and, Bool.false_and, Bool.and_true, Bool.and_false] <;> rfl
      rw [hu]; rfl
    · skip
      have h6 := t_dec h4
      refine rg_put (d := 14) (v := .pt 101 1) rfl (oy rfl rfl rfl h4 (of_eff (s_field_pt rfl Tryz.underlying137 rfl ti3 rfl rfl rfl) rfl)) ?_
      refine rg_put (d := 15) (v := .d (.fl (.int .i64 i.to))) rfl (oy rfl rfl rfl h4 (op_load_pt rfl Tryz.underlying3 rfl rfl rfl rfl rfl)) ?_
      refine rg_put (d := 16) (v := .d (.fl (.bool ((decide (i.to ≤ 68719476736)))))) rfl (oy rfl rfl rfl h4 (op_bin rfl rfl rfl (b_leq _ _ _ _) rfl)) ?_
      refine rg_put (d := 17) (v := .d (.fl (.bool ((decide (i.to ≤ 68719476736)))))) rfl (og rfl (op_pick rfl rfl (by rw [h4]; rfl) rfl)) ?_
      refine rg_put (d := 2) (v := .d (.fl (.bool ((decide (i.to ≤ 68719476736)))))) rfl (og rfl (op_assign rfl rfl rfl)) ?_
      refine rg_done rfl ?_
      refine a_ret ?_
      show ∃ ds, ResL _ _ _ ds ∧ RV.of ds = _
      refine ⟨[.fl (.bool ((decide (i.to ≤ 68719476736))))], (.cons (.tmp rfl (.d _)) .nil), ?_⟩
      have hu : vI i = (decide (i.to ≤ 68719476736)) := by
        unfold vI; simp only [h1, h4, Bool.true_and, Bool.false_and, Bool.and_true, Bool.and_false] <;> rfl
      rw [hu]; rfl
set_option maxHeartbeats 4000000 in
set_option maxRecDepth 100000 in
theorem vI26 (i : Iv) : Ctr Tryz.prog 84 [.ag (eIv i)] (.d (.fl (.bool (vI i)))) := by
  refine ctr (n := 18) (rs := #[.tmp 2]) (L := [(0, .d (.ag (eIv i)))]) Tryz.func84 rfl rfl rfl rfl rfl (fun w0 U0 => ?_)
  refine a_rseq ?_
  refine rg_nam (d := 1) (v := .pt 101 0) (m := 101) (nw := [(101, .bx 137 (eIv i))]) rfl (og rfl (of_eff (op_box 101 rfl rfl rfl rfl) rfl)) rfl ?_
  refine rg_put (d := 2) (v := .d (.fl (.bool false))) rfl (og rfl (op_assign rfl rfl rfl)) ?_
  refine rg_done rfl ?_
  refine a_rseq ?_
  refine rg_put (d := 3) (v := .pt 101 0) rfl (og rfl (of_eff (s_field_pt rfl Tryz.underlying137 rfl ti3 rfl rfl rfl) rfl)) ?_
  refine rg_put (d := 4) (v := .d (.fl (.int .i64 i.fr))) rfl (og rfl (op_load_pt rfl Tryz.underlying3 rfl rfl rfl rfl rfl)) ?_
  refine rg_put (d := 5) (v := .d (.fl (.bool ((decide (0 ≤ i.fr)))))) rfl (og rfl (op_bin rfl rfl rfl (b_geq _ _ _ _) rfl)) ?_
  refine rg_put (d := 6) (v := .d (.fl (.bool ((decide (0 ≤ i.fr)))))) rfl (og rfl (op_move rfl rfl rfl)) ?_
  rcases fot ((decide (0 ≤ i.fr))) with h1 | h1
  · skip
    have h2 := f_dec h1
    refine rg_put (d := 7) (v := .d (.fl undef)) rfl (on rfl rfl rfl h1) ?_
    refine rg_put (d := 8) (v := .d (.fl undef)) rfl (on rfl rfl rfl h1) ?_
    refine rg_put (d := 9) (v := .d (.fl undef)) rfl (on rfl rfl rfl h1) ?_
    refine rg_put (d := 10) (v := .d (.fl undef)) rfl (on rfl rfl rfl h1) ?_
    refine rg_put (d := 11) (v := .d (.fl undef)) rfl (on rfl rfl rfl h1) ?_
    refine rg_put (d := 12) (v := .d (.fl (.bool false))) rfl (og rfl (op_pick rfl rfl (by rw [h1]; rfl) rfl)) ?_
    refine rg_put (d := 13) (v := .d (.fl (.bool false))) rfl (og rfl (op_move rfl rfl rfl)) ?_
    refine rg_put (d := 14) (v := .d (.fl undef)) rfl (on rfl rfl rfl rfl) ?_
    refine rg_put (d := 15) (v := .d (.fl undef)) rfl (on rfl rfl rfl rfl) ?_
    refine rg_put (d := 16) (v := .d (.fl undef)) rfl (on rfl rfl rfl rfl) ?_
    refine rg_put (d := 17) (v := .d (.fl (.bool false))) rfl (og rfl (op_pick rfl rfl rfl rfl)) ?_
    refine rg_put (d := 2) (v := .d (.fl (.bool false))) rfl (og rfl (op_assign rfl rfl rfl)) ?_
    refine rg_done rfl ?_
    refine a_ret ?_
    show ∃ ds, ResL _ _ _ ds ∧ RV.of ds = _
    refine ⟨[.fl (.bool false)], (.cons (.tmp rfl (.d _)) .nil), ?_⟩
    have hu : vI i = false := by
      unfold vI; simp only [h1, Bool.true_and, Bool.false_and, Bool.and_true, Bool.and_false] <;> rfl
    rw [hu]; rfl
  · skip
    have h3 := t_dec h1
    refine rg_put (d := 7) (v := .pt 101 0) rfl (oy rfl rfl rfl h1 (of_eff (s_field_pt rfl Tryz.underlying137 rfl ti3 rfl rfl rfl) rfl)) ?_
    refine rg_put (d := 8) (v := .d (.fl (.int .i64 i.fr))) rfl (oy rfl rfl rfl h1 (op_load_pt rfl Tryz.underlying3 rfl rfl rfl rfl rfl)) ?_
    refine rg_put (d := 9) (v := .pt 101 1) rfl (oy rfl rfl rfl h1 (of_eff (s_field_pt rfl Tryz.underlying137 rfl ti3 rfl rfl rfl) rfl)) ?_
    refine rg_put (d := 10) (v := .d (.fl (.int .i64 i.to))) rfl (oy rfl rfl rfl h1 (op_load_pt rfl Tryz.underlying3 rfl rfl rfl rfl rfl)) ?_
    refine rg_put (d := 11) (v := .d (.fl (.bool ((decide (i.fr < i.to)))))) rfl (oy rfl rfl rfl h1 (op_bin rfl rfl rfl (b_lss _ _ _ _) rfl)) ?_
    refine rg_put (d := 12) (v := .d (.fl (.bool ((decide (i.fr < i.to)))))) rfl (og rfl (op_pick rfl rfl (by rw [h1]; rfl) rfl)) ?_
    refine rg_put (d := 13) (v := .d (.fl (.bool ((decide (i.fr < i.to)))))) rfl (og rfl (op_move rfl rfl rfl)) ?_
    rcases fot ((decide (i.fr < i.to))) with h4 | h4
    · skip
      have h5 := f_dec h4
      refine rg_put (d := 14) (v := .d (.fl undef)) rfl (on rfl rfl rfl h4) ?_
      refine rg_put (d := 15) (v := .d (.fl undef)) rfl (on rfl rfl rfl h4) ?_
      refine rg_put (d := 16) (v := .d (.fl undef)) rfl (on rfl rfl rfl h4) ?_
      refine rg_put (d := 17) (v := .d (.fl (.bool false))) rfl (og rfl (op_pick rfl rfl (by rw [h4]; rfl) rfl)) ?_
      refine rg_put (d := 2) (v := .d (.fl (.bool false))) rfl (og rfl (op_assign rfl rfl rfl)) ?_
      refine rg_done rfl ?_
      refine a_ret ?_
      show ∃ ds, ResL _ _ _ ds ∧ RV.of ds = _
      refine ⟨[.fl (.bool false)], (.cons (.tmp rfl (.d _)) .nil), ?_⟩
      have hu : vI i = false := by
        unfold vI; simp only [h1, h4, Bool.true_and, Bool.false_and, Bool.and_true, Bool.and_false] <;> rfl
      rw [hu]; rfl
    · skip
      have h6 := t_dec h4
      refine rg_put (d := 14) (v := .pt 101 1) rfl (oy rfl rfl rfl h4 (of_eff (s_field_pt rfl Tryz.underlying137 rfl ti3 rfl rfl rfl) rfl)) ?_
      refine rg_put (d := 15) (v := .d (.fl (.int .i64 i.to))) rfl (oy rfl rfl rfl h4 (op_load_pt rfl Tryz.underlying3 rfl rfl rfl rfl rfl)) ?_
      refine rg_put (d := 16) (v := .d (.fl (.bool ((decide (i.to ≤ 68719476736)))))) rfl (oy rfl rfl rfl h4 (op_bin rfl rfl rfl (b_leq _ _ _ _) rfl)) ?_
      refine rg_put (d := 17) (v := .d (.fl (.bool ((decide (i.to ≤ 68719476736)))))) rfl (og rfl (op_pick rfl rfl (by rw [h4]; rfl) rfl)) ?_
      refine rg_put (d := 2) (v := .d (.fl (.bool ((decide (i.to ≤ 68719476736)))))) rfl (og rfl (op_assign rfl rfl rfl)) ?_
      refine rg_done rfl ?_
      refine a_ret ?_
      show ∃ ds, ResL _ _ _ ds ∧ RV.of ds = _
      refine ⟨[.fl (.bool ((decide (i.to ≤ 68719476736))))], (.cons (.tmp rfl (.d _)) .nil), ?_⟩
      have hu : vI i = (decide (i.to ≤ 68719476736)) := by
        unfold vI; simp only [h1, h4, Bool.true_and, Bool.false_and, Bool.and_true, Bool.and_false] <;> rfl
      rw [hu]; rfl
set_option maxHeartbeats 4000000 in
set_option maxRecDepth 100000 in
theorem isT23 (t : Int) : Ctr Tryz.prog 119 [.fl (.int .i64 t)] (.d (.fl (.bool (isT t)))) := by
  refine ctr (n := 9) (rs := #[.tmp 2]) (L := [(0, .d (.fl (.int .i64 t)))]) Tryz.func119 rfl rfl rfl rfl rfl (fun w0 U0 => ?_)
  refine a_rseq ?_
  refine rg_put (d := 2) (v := .d (.fl (.bool false))) rfl (og rfl (op_assign rfl rfl rfl)) ?_
  refine rg_done rfl ?_
  refine a_rseq ?_
  refine rg_put (d := 3) (v := .d (.fl (.int .i64 t))) rfl (og rfl (op_move rfl rfl rfl)) ?_
  refine rg_put (d := 4) (v := .d (.fl (.bool ((decide (0 ≤ t)))))) rfl (og rfl (op_bin rfl rfl rfl (b_leq _ _ _ _) rfl)) ?_
  refine rg_put (d := 5) (v := .d (.fl (.bool ((decide (0 ≤ t)))))) rfl (og rfl (op_move rfl rfl rfl)) ?_
  rcases fot ((decide (0 ≤ t))) with h1 | h1
  · skip
    have h2 := f_dec h1
    refine rg_put (d := 6) (v := .d (.fl undef)) rfl (on rfl rfl rfl h1) ?_
    refine rg_put (d := 7) (v := .d (.fl undef)) rfl (on rfl rfl rfl h1) ?_
    refine rg_put (d := 8) (v := .d (.fl (.bool false))) rfl (og rfl (op_pick rfl rfl (by rw [h1]; rfl) rfl)) ?_
    refine rg_put (d := 2) (v := .d (.fl (.bool false))) rfl (og rfl (op_assign rfl rfl rfl)) ?_
    refine rg_done rfl ?_
    refine a_ret ?_
    show ∃ ds, ResL _ _ _ ds ∧ RV.of ds = _
    refine ⟨[.fl (.bool false)], (.cons (.tmp rfl (.d _)) .nil), ?_⟩
    have hu : isT t = false := by
      unfold isT; simp only [h1, Bool.true_and, Bool.false_and, Bool.and_true, Bool.and_false] <;> rfl
    rw [hu]; rfl
  · skip
    have h3 := t_dec h1
    refine rg_put (d := 6) (v := .d (.fl (.int .i64 t))) rfl (oy rfl rfl rfl h1 (op_move rfl rfl rfl)) ?_
    refine rg_put (d := 7) (v := .d (.fl (.bool ((decide (t < 68719476736)))))) rfl (oy rfl rfl rfl h1 (op_bin rfl rfl rfl (b_lss _ _ _ _) rfl)) ?_
    refine rg_put (d := 8) (v := .d (.fl (.bool ((decide (t < 68719476736)))))) rfl (og rfl (op_pick rfl rfl (by rw [h1]; rfl) rfl)) ?_
    refine rg_put (d := 2) (v := .d (.fl (.bool ((decide (t < 68719476736)))))) rfl (og rfl (op_assign rfl rfl rfl)) ?_
    refine rg_done rfl ?_
    refine a_ret ?_
    show ∃ ds, ResL _ _ _ ds ∧ RV.of ds = _
    refine ⟨[.fl (.bool ((decide (t < 68719476736))))], (.cons (.tmp rfl (.d _)) .nil), ?_⟩
    have hu : isT t = (decide (t < 68719476736)) := by
      unfold isT; simp only [h1, Bool.true_and, Bool.false_and, Bool.and_true, Bool.and_false] <;> rfl
    rw [hu]; rfl
set_option maxHeartbeats 4000000 in
set_option maxRecDepth 100000 in
theorem isT24 (t : Int) : Ctr Tryz.prog 83 [.fl (.int .i64 t)] (.d (.fl (.bool (isT t)))) := by
  refine ctr (n := 9) (rs := #[.tmp 2]) (L := [(0, .d (.fl (.int .i64 t)))]) Tryz.func83 rfl rfl rfl rfl rfl (fun w0 U0 => ?_)
  refine a_rseq ?_
  refine rg_put (d := 2) (v := .d (.fl (.bool false))) rfl (og rfl (op_assign rfl rfl rfl)) ?_
  refine rg_done rfl ?_
  refine a_rseq ?_
  refine rg_put (d := 3) (v := .d (.fl (.int .i64 t))) rfl (og rfl (op_move rfl rfl rfl)) ?_
  refine rg_put (d := 4) (v := .d (.fl (.bool ((decide (0 ≤ t)))))) rfl (og rfl (op_bin rfl rfl rfl (b_geq _ _ _ _) rfl)) ?_
  refine rg_put (d := 5) (v := .d (.fl (.bool ((decide (0 ≤ t)))))) rfl (og rfl (op_move rfl rfl rfl)) ?_
  rcases fot ((decide (0 ≤ t))) with h1 | h1
  · skip
    have h2 := f_dec h1
    refine rg_put (d := 6) (v := .d (.fl undef)) rfl (on rfl rfl rfl h1) ?_
    refine rg_put (d := 7) (v := .d (.fl undef)) rfl (on rfl rfl rfl h1) ?_
    refine rg_put (d := 8) (v := .d (.fl (.bool false))) rfl (og rfl (op_pick rfl rfl (by rw [h1]; rfl) rfl)) ?_
    refine rg_put (d := 2) (v := .d (.fl (.bool false))) rfl (og rfl (op_assign rfl rfl rfl)) ?_
    refine rg_done rfl ?_
    refine a_ret ?_
    show ∃ ds, ResL _ _ _ ds ∧ RV.of ds = _
    refine ⟨[.fl (.bool false)], (.cons (.tmp rfl (.d _)) .nil), ?_⟩
    have hu : isT t = false := by
      unfold isT; simp only [h1, Bool.true_and, Bool.false_and, Bool.and_true, Bool.and_false] <;> rfl
    rw [hu]; rfl
  · skip
    have h3 := t_dec h1
    refine rg_put (d := 6) (v := .d (.fl (.int .i64 t))) rfl (oy rfl rfl rfl h1 (op_move rfl rfl rfl)) ?_
    refine rg_put (d := 7) (v := .d (.fl (.bool ((decide (t < 68719476736)))))) rfl (oy rfl rfl rfl h1 (op_bin rfl rfl rfl (b_lss _ _ _ _) rfl)) ?_
    refine rg_put (d := 8) (v := .d (.fl (.bool ((decide (t < 68719476736)))))) rfl (og rfl (op_pick rfl rfl (by rw [h1]; rfl) rfl)) ?_
    refine rg_put (d := 2) (v := .d (.fl (.bool ((decide (t < 68719476736)))))) rfl (og rfl (op_assign rfl rfl rfl)) ?_
    refine rg_done rfl ?_
    refine a_ret ?_
    show ∃ ds, ResL _ _ _ ds ∧ RV.of ds = _
    refine ⟨[.fl (.bool ((decide (t < 68719476736))))], (.cons (.tmp rfl (.d _)) .nil), ?_⟩
    have hu : isT t = (decide (t < 68719476736)) := by
      unfold isT; simp only [h1, Bool.true_and, Bool.false_and, Bool.and_true, Bool.and_false] <;> rfl
    rw [hu]; rfl
set_option maxHeartbeats 4000000 in
set_option maxRecDepth 100000 in
theorem has25 (l : List Iv) (t : Int) (hl : l.length ≤ 1000) : Ctr Tryz.prog 120 [.sl 2 (List.map eIv l), .fl (.int .i64 t)] (.d (.fl (.bool (hasL l t)))) := by
  refine ctr (n := 28) (rs := #[.tmp 4]) (L := [(0, .d (.sl 2 (List.map eIv l))), (1, .d (.fl (.int .i64 t)))]) Tryz.func120 rfl rfl rfl rfl rfl (fun w0 U0 => ?_)
  refine a_rseq ?_
  refine rg_put (d := 4) (v := .d (.fl (.bool false))) rfl (og rfl (op_assign rfl rfl rfl)) ?_
  refine rg_done rfl ?_
  refine a_seq ?_
  refine a_rseq ?_
  refine rg_put (d := 7) (v := .d (.sl 2 (List.map eIv l))) rfl (og rfl (op_move rfl rfl rfl)) ?_
  refine rg_put (d := 8) (v := .d (.fl (.int .i64 (l.length : Int)))) rfl (og rfl (s_len rfl Tryz.underlying75 rfl rfl)) ?_
  refine rg_put (d := 9) (v := .d (.fl (.int .i64 0))) rfl (og rfl (op_move rfl rfl rfl)) ?_
  refine rg_done rfl ?_
  refine a_block ?_
  refine a_loop (ι := Nat) (fun k => SS [(0, .d (.sl 2 (List.map eIv l))), (1, .d (.fl (.int .i64 t))), (7, .d (.sl 2 (List.map eIv l))), (8, .d (.fl (.int .i64 (l.length : Int)))), (9, .d (.fl (.int .i64 (k : Int))))] []) (fun k => k ≤ l.length ∧ ∀ q, q < k → hasI (ix l q) t = false) (fun k => l.length - k) 0 (⟨by omega, fun q h => by omega⟩) (imp_forget rfl ⟨rfl, rfl, rfl, rfl, (by first | rfl | exact ci (by omega) | exact ci (by simp) | exact cd (by simp) | simp), trivial⟩ trivial) (fun k hok => ?_)
  obtain ⟨hk, hq⟩ := hok
  refine a_rseq ?_
  refine rg_put (d := 10) (v := .d (.fl (.bool ((decide ((k : Int) < (l.length : Int))))))) rfl (og rfl (op_bin rfl rfl rfl (b_lss _ _ _ _) rfl)) ?_
  refine rg_done rfl ?_
  refine a_seq ?_
  refine a_cond rfl (fun h1 => ?_) (fun h1 => ?_)
  · skip
    have h2 := t_dec h1
    refine a_skip ?_
    show A _ _ _ _ _ _ _
    refine a_seq ?_
    refine a_block ?_
    refine a_rseq ?_
    refine rg_put (d := 11) (v := .el ((eIv (ix l k)))) rfl (og rfl (s_index rfl Tryz.underlying75 ti137 rfl rfl (by omega) (row_at (by omega)) rfl)) ?_
    refine rg_put (d := 12) (v := .d (.ag (eIv (ix l k)))) rfl (og rfl (of_eff (s_load_els rfl Tryz.underlying137 rfl ti137 rfl rfl rfl) rfl)) ?_
    refine rg_nam (d := 6) (v := .pt 101 0) (m := 101) (nw := [(101, .bx 137 [.fl (.int .i64 0), .fl (.int .i64 0)])]) rfl (og rfl (of_eff (s_alloc 101 rfl ti137 (by kernel_rfl) rfl) rfl)) rfl ?_
    refine rg_sto (nw := [(101, .bx 137 ((eIv (ix l k))))]) rfl (og rfl (of_eff (s_store rfl rfl ti137 rfl rfl rfl rfl rfl rfl) rfl)) ?_
    refine rg_done rfl ?_
    refine a_rseq ?_
    refine rg_put (d := 13) (v := .d (.ag (eIv (ix l k)))) rfl (og rfl (of_eff (s_load_pts rfl Tryz.underlying137 rfl ti137 rfl rfl rfl rfl) rfl)) ?_
    refine rg_put (d := 14) (v := .d (.fl (.bool ((vI (ix l k)))))) rfl (og rfl (op_call rfl Tryz.func163 nm163 rfl (.cons rfl (.d _) .nil) (vI34 (ix l k)) rfl)) ?_
    refine rg_put (d := 15) (v := .d (.fl (.bool ((vI (ix l k)))))) rfl (og rfl (op_move rfl rfl rfl)) ?_
    rcases fot ((vI (ix l k))) with h3 | h3
    · skip
      refine rg_put (d := 16) (v := .d (.fl undef)) rfl (on rfl rfl rfl h3) ?_
      refine rg_put (d := 17) (v := .d (.fl undef)) rfl (on rfl rfl rfl h3) ?_
      refine rg_put (d := 18) (v := .d (.fl undef)) rfl (on rfl rfl rfl h3) ?_
      refine rg_put (d := 19) (v := .d (.fl undef)) rfl (on rfl rfl rfl h3) ?_
      refine rg_put (d := 20) (v := .d (.fl (.bool false))) rfl (og rfl (op_pick rfl rfl (by rw [h3]; rfl) rfl)) ?_
      refine rg_put (d := 21) (v := .d (.fl (.bool false))) rfl (og rfl (op_move rfl rfl rfl)) ?_
      refine rg_put (d := 22) (v := .d (.fl undef)) rfl (on rfl rfl rfl rfl) ?_
      refine rg_put (d := 23) (v := .d (.fl undef)) rfl (on rfl rfl rfl rfl) ?_
      refine rg_put (d := 24) (v := .d (.fl undef)) rfl (on rfl rfl rfl rfl) ?_
      refine rg_put (d := 25) (v := .d (.fl undef)) rfl (on rfl rfl rfl rfl) ?_
      refine rg_put (d := 26) (v := .d (.fl (.bool false))) rfl (og rfl (op_pick rfl rfl rfl rfl)) ?_
      refine rg_done rfl ?_
      refine a_condF rfl rfl ?_
      refine a_skip ?_
      show A _ _ _ _ _ _ _
      refine a_region ?_
      refine rg_put (d := 27) (v := .d (.fl (.int .i64 (((k : Int) + 1))))) rfl (og rfl (op_bin rfl rfl rfl (fun x y w => b_add64 _ _ _ x y w (by omega)) rfl)) ?_
      refine rg_put (d := 9) (v := .d (.fl (.int .i64 (((k : Int) + 1))))) rfl (og rfl (op_move rfl rfl rfl)) ?_
      refine rg_done rfl ?_
      have hx : hasI (ix l k) t = false := by unfold hasI; simp only [h1, h3, Bool.true_and, Bool.false_and, Bool.and_true, Bool.and_false] <;> rfl
      show ∃ i, _ ∧ _ ∧ Imp _ _ _ _ _
      refine ⟨k + 1, ⟨by omega, fun q h => (Nat.lt_succ_iff_lt_or_eq.1 h).elim (hq q) (fun e => by rw [e]; exact hx)⟩, by omega, imp_forget rfl ⟨rfl, rfl, rfl, rfl, (by first | rfl | exact ci (by omega) | exact ci (by simp) | exact cd (by simp) | simp), trivial⟩ trivial⟩
    · skip
      refine rg_put (d := 16) (v := .pt 101 0) rfl (oy rfl rfl rfl h3 (of_eff (s_field_pt rfl Tryz.underlying137 rfl ti3 rfl rfl rfl) rfl)) ?_
      refine rg_put (d := 17) (v := .d (.fl (.int .i64 ((ix l k).fr)))) rfl (oy rfl rfl rfl h3 (op_load_pt rfl Tryz.underlying3 rfl rfl rfl rfl rfl)) ?_
      refine rg_put (d := 18) (v := .d (.fl (.int .i64 t))) rfl (oy rfl rfl rfl h3 (op_move rfl rfl rfl)) ?_
      refine rg_put (d := 19) (v := .d (.fl (.bool ((decide ((ix l k).fr ≤ t)))))) rfl (oy rfl rfl rfl h3 (op_bin rfl rfl rfl (b_leq _ _ _ _) rfl)) ?_
      refine rg_put (d := 20) (v := .d (.fl (.bool ((decide ((ix l k).fr ≤ t)))))) rfl (og rfl (op_pick rfl rfl (by rw [h3]; rfl) rfl)) ?_
      refine rg_put (d := 21) (v := .d (.fl (.bool ((decide ((ix l k).fr ≤ t)))))) rfl (og rfl (op_move rfl rfl rfl)) ?_
      rcases fot ((decide ((ix l k).fr ≤ t))) with h4 | h4
      · skip
        have h5 := f_dec h4
        refine rg_put (d := 22) (v := .d (.fl undef)) rfl (on rfl rfl rfl h4) ?_
        refine rg_put (d := 23) (v := .d (.fl undef)) rfl (on rfl rfl rfl h4) ?_
        refine rg_put (d := 24) (v := .d (.fl undef)) rfl (on rfl rfl rfl h4) ?_
        refine rg_put (d := 25) (v := .d (.fl undef)) rfl (on rfl rfl rfl h4) ?_
        refine rg_put (d := 26) (v := .d (.fl (.bool false))) rfl (og rfl (op_pick rfl rfl (by rw [h4]; rfl) rfl)) ?_
        refine rg_done rfl ?_
        refine a_condF rfl rfl ?_
        refine a_skip ?_
        show A _ _ _ _ _ _ _
        refine a_region ?_
        refine rg_put (d := 27) (v := .d (.fl (.int .i64 (((k : Int) + 1))))) rfl (og rfl (op_bin rfl rfl rfl (fun x y w => b_add64 _ _ _ x y w (by omega)) rfl)) ?_
        refine rg_put (d := 9) (v := .d (.fl (.int .i64 (((k : Int) + 1))))) rfl (og rfl (op_move rfl rfl rfl)) ?_
        refine rg_done rfl ?_
        have hx : hasI (ix l k) t = false := by unfold hasI; simp only [h1, h3, h4, Bool.true_and, Bool.false_and, Bool.and_true, Bool.and_false] <;> rfl
        show ∃ i, _ ∧ _ ∧ Imp _ _ _ _ _
        refine ⟨k + 1, ⟨by omega, fun q h => (Nat.lt_succ_iff_lt_or_eq.1 h).elim (hq q) (fun e => by rw [e]; exact hx)⟩, by omega, imp_forget rfl ⟨rfl, rfl, rfl, rfl, (by first | rfl | exact ci (by omega) | exact ci (by simp) | exact cd (by simp) | simp), trivial⟩ trivial⟩
      · skip
        have h6 := t_dec h4
        refine rg_put (d := 22) (v := .d (.fl (.int .i64 t))) rfl (oy rfl rfl rfl h4 (op_move rfl rfl rfl)) ?_
        refine rg_put (d := 23) (v := .pt 101 1) rfl (oy rfl rfl rfl h4 (of_eff (s_field_pt rfl Tryz.underlying137 rfl ti3 rfl rfl rfl) rfl)) ?_
        refine rg_put (d := 24) (v := .d (.fl (.int .i64 ((ix l k).to)))) rfl (oy rfl rfl rfl h4 (op_load_pt rfl Tryz.underlying3 rfl rfl rfl rfl rfl)) ?_
        refine rg_put (d := 25) (v := .d (.fl (.bool ((decide (t < (ix l k).to)))))) rfl (oy rfl rfl rfl h4 (op_bin rfl rfl rfl (b_lss _ _ _ _) rfl)) ?_
        refine rg_put (d := 26) (v := .d (.fl (.bool ((decide (t < (ix l k).to)))))) rfl (og rfl (op_pick rfl rfl (by rw [h4]; rfl) rfl)) ?_
        refine rg_done rfl ?_
        refine a_cond rfl (fun h7 => ?_) (fun h7 => ?_)
        · skip
          have h8 := t_dec h7
          refine a_rseq ?_
          refine rg_put (d := 4) (v := .d (.fl (.bool true))) rfl (og rfl (op_assign rfl rfl rfl)) ?_
          refine rg_done rfl ?_
          refine a_ret ?_
          show ∃ ds, ResL _ _ _ ds ∧ RV.of ds = _
          refine ⟨[.fl (.bool true)], (.cons (.tmp rfl (.d _)) .nil), ?_⟩
          have hx : hasI (ix l k) t = true := by unfold hasI; simp only [h1, h3, h4, h7, Bool.true_and, Bool.false_and, Bool.and_true, Bool.and_false] <;> rfl
          have hu : hasL l t = true := any_at (by omega) hx
          rw [hu]; rfl
        · skip
          have h9 := f_dec h7
          refine a_skip ?_
          show A _ _ _ _ _ _ _
          refine a_region ?_
          refine rg_put (d := 27) (v := .d (.fl (.int .i64 (((k : Int) + 1))))) rfl (og rfl (op_bin rfl rfl rfl (fun x y w => b_add64 _ _ _ x y w (by omega)) rfl)) ?_
          refine rg_put (d := 9) (v := .d (.fl (.int .i64 (((k : Int) + 1))))) rfl (og rfl (op_move rfl rfl rfl)) ?_
          refine rg_done rfl ?_
          have hx : hasI (ix l k) t = false := by unfold hasI; simp only [h1, h3, h4, h7, Bool.true_and, Bool.false_and, Bool.and_true, Bool.and_false] <;> rfl
          show ∃ i, _ ∧ _ ∧ Imp _ _ _ _ _
          refine ⟨k + 1, ⟨by omega, fun q h => (Nat.lt_succ_iff_lt_or_eq.1 h).elim (hq q) (fun e => by rw [e]; exact hx)⟩, by omega, imp_forget rfl ⟨rfl, rfl, rfl, rfl, (by first | rfl | exact ci (by omega) | exact ci (by simp) | exact cd (by simp) | simp), trivial⟩ trivial⟩
  · skip
    have h10 := f_dec h1
    refine a_exit ?_
    show A _ _ _ _ _ _ _
    refine a_rseq ?_
    refine rg_put (d := 4) (v := .d (.fl (.bool false))) rfl (og rfl (op_assign rfl rfl rfl)) ?_
    refine rg_done rfl ?_
    refine a_ret ?_
    show ∃ ds, ResL _ _ _ ds ∧ RV.of ds = _
    refine ⟨[.fl (.bool false)], (.cons (.tmp rfl (.d _)) .nil), ?_⟩
    have hu : hasL l t = false := any_no (fun q h => hq q (by omega))
    rw [hu]; rfl
set_option maxHeartbeats 4000000 in
set_option maxRecDepth 100000 in
theorem wrk12 (d : Dc) (t : Int) (hl : d.down.length ≤ 1000) : Ctr Tryz.prog 92 [.ag (eDc d), .fl (.int .i64 t)] (.d (.fl (.bool (wrk d t)))) := by
  refine ctr (n := 14) (rs := #[.tmp 4]) (L := [(0, .d (.ag (eDc d))), (1, .d (.fl (.int .i64 t)))]) Tryz.func92 rfl rfl rfl rfl rfl (fun w0 U0 => ?_)
  refine a_rseq ?_
  refine rg_nam (d := 2) (v := .pt 101 0) (m := 101) (nw := [(101, .bx 77 (eDc d))]) rfl (og rfl (of_eff (op_box 101 rfl rfl rfl rfl) rfl)) rfl ?_
  refine rg_put (d := 4) (v := .d (.fl (.bool false))) rfl (og rfl (op_assign rfl rfl rfl)) ?_
  refine rg_done rfl ?_
  refine a_rseq ?_
  refine rg_put (d := 5) (v := .d (.fl (.int .i64 t))) rfl (og rfl (op_move rfl rfl rfl)) ?_
  refine rg_put (d := 6) (v := .d (.fl (.bool (isT t)))) rfl (og rfl (op_call rfl Tryz.func119 nm119 rfl (.cons rfl (.d _) .nil) (isT23 t) rfl)) ?_
  refine rg_put (d := 7) (v := .d (.fl (.bool (isT t)))) rfl (og rfl (op_move rfl rfl rfl)) ?_
  rcases fot (isT t) with h1 | h1
  · skip
    refine rg_put (d := 8) (v := .d (.fl undef)) rfl (on rfl rfl rfl h1) ?_
    refine rg_put (d := 9) (v := .d (.fl undef)) rfl (on rfl rfl rfl h1) ?_
    refine rg_put (d := 10) (v := .d (.fl undef)) rfl (on rfl rfl rfl h1) ?_
    refine rg_put (d := 11) (v := .d (.fl undef)) rfl (on rfl rfl rfl h1) ?_
    refine rg_put (d := 12) (v := .d (.fl undef)) rfl (on rfl rfl rfl h1) ?_
    refine rg_put (d := 13) (v := .d (.fl (.bool false))) rfl (og rfl (op_pick rfl rfl (by rw [h1]; rfl) rfl)) ?_
    refine rg_put (d := 4) (v := .d (.fl (.bool false))) rfl (og rfl (op_assign rfl rfl rfl)) ?_
    refine rg_done rfl ?_
    refine a_ret ?_
    show ∃ ds, ResL _ _ _ ds ∧ RV.of ds = _
    refine ⟨[.fl (.bool false)], (.cons (.tmp rfl (.d _)) .nil), ?_⟩
    rw [wrk_no h1]; rfl
  · skip
    refine rg_put (d := 8) (v := .pt 101 5) rfl (oy rfl rfl rfl h1 (of_eff (s_field_pt rfl Tryz.underlying77 rfl ti75 rfl rfl rfl) rfl)) ?_
    refine rg_put (d := 9) (v := .d (.sl 2 (List.map eIv d.down))) rfl (oy rfl rfl rfl h1 (op_load_pt rfl Tryz.underlying75 rfl rfl rfl rfl rfl)) ?_
    refine rg_put (d := 10) (v := .d (.fl (.int .i64 t))) rfl (oy rfl rfl rfl h1 (op_move rfl rfl rfl)) ?_
    refine rg_put (d := 11) (v := .d (.fl (.bool (hasL d.down t)))) rfl (oy rfl rfl rfl h1 (op_call rfl Tryz.func120 nm120 rfl (.cons rfl (.d _) (.cons rfl (.d _) .nil)) (has25 d.down t (by omega)) rfl)) ?_
    refine rg_put (d := 12) (v := .d (.fl (.bool ((!(hasL d.down t)))))) rfl (oy rfl rfl rfl h1 (op_un rfl rfl (u_not _) rfl)) ?_
    refine rg_put (d := 13) (v := .d (.fl (.bool ((!(hasL d.down t)))))) rfl (og rfl (op_pick rfl rfl (by rw [h1]; rfl) rfl)) ?_
    refine rg_put (d := 4) (v := .d (.fl (.bool ((!(hasL d.down t)))))) rfl (og rfl (op_assign rfl rfl rfl)) ?_
    refine rg_done rfl ?_
    refine a_ret ?_
    show ∃ ds, ResL _ _ _ ds ∧ RV.of ds = _
    refine ⟨[.fl (.bool ((!(hasL d.down t))))], (.cons (.tmp rfl (.d _)) .nil), ?_⟩
    rw [wrk_has h1 rfl]; rfl
set_option maxHeartbeats 4000000 in
set_option maxRecDepth 100000 in
theorem wrk13 (d : Dc) (t : Int) (hl : d.down.length ≤ 1000) : Ctr Tryz.prog 49 [.ag (eDc d), .fl (.int .i64 t)] (.d (.fl (.bool (wrk d t)))) := by
  refine ctr (n := 42) (rs := #[.tmp 4]) (L := [(0, .d (.ag (eDc d))), (1, .d (.fl (.int .i64 t)))]) Tryz.func49 rfl rfl rfl rfl rfl (fun w0 U0 => ?_)
  refine a_rseq ?_
  refine rg_nam (d := 2) (v := .pt 101 0) (m := 101) (nw := [(101, .bx 77 (eDc d))]) rfl (og rfl (of_eff (op_box 101 rfl rfl rfl rfl) rfl)) rfl ?_
  refine rg_put (d := 4) (v := .d (.fl (.bool false))) rfl (og rfl (op_assign rfl rfl rfl)) ?_
  refine rg_done rfl ?_
  refine a_seq ?_
  refine a_rseq ?_
  refine rg_put (d := 6) (v := .d (.fl (.int .i64 t))) rfl (og rfl (op_move rfl rfl rfl)) ?_
  refine rg_put (d := 7) (v := .d (.fl (.bool (isT t)))) rfl (og rfl (op_call rfl Tryz.func83 nm83 rfl (.cons rfl (.d _) .nil) (isT24 t) rfl)) ?_
  refine rg_put (d := 8) (v := .d (.fl (.bool ((!(isT t)))))) rfl (og rfl (op_un rfl rfl (u_not _) rfl)) ?_
  refine rg_done rfl ?_
  refine a_cond rfl (fun h1 => ?_) (fun h1 => ?_)
  · skip
    have h2 := t_not h1
    refine a_rseq ?_
    refine rg_put (d := 4) (v := .d (.fl (.bool false))) rfl (og rfl (op_assign rfl rfl rfl)) ?_
    refine rg_done rfl ?_
    refine a_ret ?_
    show ∃ ds, ResL _ _ _ ds ∧ RV.of ds = _
    refine ⟨[.fl (.bool false)], (.cons (.tmp rfl (.d _)) .nil), ?_⟩
    rw [wrk_no h2]; rfl
  · skip
    have h3 := f_not h1
    refine a_skip ?_
    show A _ _ _ _ _ _ _
    refine a_seq ?_
    refine a_rseq ?_
    refine rg_put (d := 5) (v := .d (.fl (.int .i64 0))) rfl (og rfl (op_assign rfl rfl rfl)) ?_
    refine rg_done rfl ?_
    refine a_block ?_
    refine a_loop (ι := Nat) (fun k => SS [(0, .d (.ag (eDc d))), (1, .d (.fl (.int .i64 t))), (2, .pt 101 0), (8, .d (.fl (.bool ((!(isT t)))))), (5, .d (.fl (.int .i64 (k : Int))))] [(101, .bx 77 (eDc d))]) (fun k => k ≤ d.down.length ∧ ∀ q, q < k → hasI (ix d.down q) t = false) (fun k => d.down.length - k) 0 (⟨by omega, fun q h => by omega⟩) (imp_forget rfl ⟨rfl, rfl, rfl, rfl, (by first | rfl | exact ci (by omega) | exact ci (by simp) | exact cd (by simp) | simp), trivial⟩ ⟨rfl, trivial⟩) (fun k hok => ?_)
    obtain ⟨hk, hq⟩ := hok
    refine a_seq ?_
    refine a_rseq ?_
    refine rg_put (d := 9) (v := .d (.fl (.int .i64 (k : Int)))) rfl (og rfl (op_move rfl rfl rfl)) ?_
    refine rg_put (d := 10) (v := .pt 101 5) rfl (og rfl (of_eff (s_field_pt rfl Tryz.underlying77 rfl ti75 rfl rfl rfl) rfl)) ?_
    refine rg_put (d := 11) (v := .d (.sl 2 (List.map eIv d.down))) rfl (og rfl (op_load_pt rfl Tryz.underlying75 rfl rfl rfl rfl rfl)) ?_
    refine rg_put (d := 12) (v := .d (.fl (.int .i64 (d.down.length : Int)))) rfl (og rfl (s_len rfl Tryz.underlying75 rfl rfl)) ?_
    refine rg_put (d := 13) (v := .d (.fl (.bool ((decide ((k : Int) < (d.down.length : Int))))))) rfl (og rfl (op_bin rfl rfl rfl (b_lss _ _ _ _) rfl)) ?_
    refine rg_done rfl ?_
    refine a_cond rfl (fun h4 => ?_) (fun h4 => ?_)
    · skip
      have h5 := t_dec h4
      refine a_skip ?_
      show A _ _ _ _ _ _ _
      refine a_seq ?_
      refine a_block ?_
      refine a_rseq ?_
      refine rg_put (d := 16) (v := .pt 101 5) rfl (og rfl (of_eff (s_field_pt rfl Tryz.underlying77 rfl ti75 rfl rfl rfl) rfl)) ?_
      refine rg_put (d := 17) (v := .d (.sl 2 (List.map eIv d.down))) rfl (og rfl (op_load_pt rfl Tryz.underlying75 rfl rfl rfl rfl rfl)) ?_
      refine rg_put (d := 18) (v := .d (.fl (.int .i64 (k : Int)))) rfl (og rfl (op_move rfl rfl rfl)) ?_
      refine rg_put (d := 19) (v := .el ((eIv (ix d.down k)))) rfl (og rfl (s_index rfl Tryz.underlying75 ti137 rfl rfl (by omega) (row_at (by omega)) rfl)) ?_
      refine rg_put (d := 20) (v := .d (.ag (eIv (ix d.down k)))) rfl (og rfl (of_eff (s_load_els rfl Tryz.underlying137 rfl ti137 rfl rfl rfl) rfl)) ?_
      refine rg_put (d := 21) (v := .d (.fl (.bool ((vI (ix d.down k)))))) rfl (og rfl (op_call rfl Tryz.func84 nm84 rfl (.cons rfl (.d _) .nil) (vI26 (ix d.down k)) rfl)) ?_
      refine rg_put (d := 22) (v := .d (.fl (.bool ((vI (ix d.down k)))))) rfl (og rfl (op_move rfl rfl rfl)) ?_
      rcases fot ((vI (ix d.down k))) with h6 | h6
      · skip
        refine rg_put (d := 23) (v := .d (.fl undef)) rfl (on rfl rfl rfl h6) ?_
        refine rg_put (d := 24) (v := .d (.fl undef)) rfl (on rfl rfl rfl h6) ?_
        refine rg_put (d := 25) (v := .d (.fl undef)) rfl (on rfl rfl rfl h6) ?_
        refine rg_put (d := 26) (v := .d (.fl undef)) rfl (on rfl rfl rfl h6) ?_
        refine rg_put (d := 27) (v := .d (.fl undef)) rfl (on rfl rfl rfl h6) ?_
        refine rg_put (d := 28) (v := .d (.fl undef)) rfl (on rfl rfl rfl h6) ?_
        refine rg_put (d := 29) (v := .d (.fl undef)) rfl (on rfl rfl rfl h6) ?_
        refine rg_put (d := 30) (v := .d (.fl undef)) rfl (on rfl rfl rfl h6) ?_
        refine rg_put (d := 31) (v := .d (.fl (.bool false))) rfl (og rfl (op_pick rfl rfl (by rw [h6]; rfl) rfl)) ?_
        refine rg_put (d := 32) (v := .d (.fl (.bool false))) rfl (og rfl (op_move rfl rfl rfl)) ?_
        refine rg_put (d := 33) (v := .d (.fl undef)) rfl (on rfl rfl rfl rfl) ?_
        refine rg_put (d := 34) (v := .d (.fl undef)) rfl (on rfl rfl rfl rfl) ?_
        refine rg_put (d := 35) (v := .d (.fl undef)) rfl (on rfl rfl rfl rfl) ?_
        refine rg_put (d := 36) (v := .d (.fl undef)) rfl (on rfl rfl rfl rfl) ?_
        refine rg_put (d := 37) (v := .d (.fl undef)) rfl (on rfl rfl rfl rfl) ?_
        refine rg_put (d := 38) (v := .d (.fl undef)) rfl (on rfl rfl rfl rfl) ?_
        refine rg_put (d := 39) (v := .d (.fl undef)) rfl (on rfl rfl rfl rfl) ?_
        refine rg_put (d := 40) (v := .d (.fl undef)) rfl (on rfl rfl rfl rfl) ?_
        refine rg_put (d := 41) (v := .d (.fl (.bool false))) rfl (og rfl (op_pick rfl rfl rfl rfl)) ?_
        refine rg_done rfl ?_
        refine a_condF rfl rfl ?_
        refine a_skip ?_
        show A _ _ _ _ _ _ _
        refine a_region ?_
        refine rg_put (d := 14) (v := .d (.fl (.int .i64 (k : Int)))) rfl (og rfl (op_move rfl rfl rfl)) ?_
        refine rg_put (d := 15) (v := .d (.fl (.int .i64 (((k : Int) + 1))))) rfl (og rfl (op_bin rfl rfl rfl (fun x y w => b_add64 _ _ _ x y w (by omega)) rfl)) ?_
        refine rg_put (d := 5) (v := .d (.fl (.int .i64 (((k : Int) + 1))))) rfl (og rfl (op_assign rfl rfl rfl)) ?_
        refine rg_done rfl ?_
        have hx : hasI (ix d.down k) t = false := by unfold hasI; simp only [h1, h3, h4, h6, Bool.true_and, Bool.false_and, Bool.and_true, Bool.and_false] <;> rfl
        show ∃ i, _ ∧ _ ∧ Imp _ _ _ _ _
        refine ⟨k + 1, ⟨by omega, fun q h => (Nat.lt_succ_iff_lt_or_eq.1 h).elim (hq q) (fun e => by rw [e]; exact hx)⟩, by omega, imp_forget rfl ⟨rfl, rfl, rfl, rfl, (by first | rfl | exact ci (by omega) | exact ci (by simp) | exact cd (by simp) | simp), trivial⟩ ⟨rfl, trivial⟩⟩
      · skip
        refine rg_put (d := 23) (v := .pt 101 5) rfl (oy rfl rfl rfl h6 (of_eff (s_field_pt rfl Tryz.underlying77 rfl ti75 rfl rfl rfl) rfl)) ?_
        refine rg_put (d := 24) (v := .d (.sl 2 (List.map eIv d.down))) rfl (oy rfl rfl rfl h6 (op_load_pt rfl Tryz.underlying75 rfl rfl rfl rfl rfl)) ?_
        refine rg_put (d := 25) (v := .d (.fl (.int .i64 (k : Int)))) rfl (oy rfl rfl rfl h6 (op_move rfl rfl rfl)) ?_
        refine rg_put (d := 26) (v := .el ((eIv (ix d.down k)))) rfl (oy rfl rfl rfl h6 (s_index rfl Tryz.underlying75 ti137 rfl rfl (by omega) (row_at (by omega)) rfl)) ?_
        refine rg_put (d := 27) (v := .el ((List.drop 0 ((eIv (ix d.down k)))))) rfl (oy rfl rfl rfl h6 (of_eff (s_field_el rfl Tryz.underlying137 rfl ti3 rfl rfl rfl) rfl)) ?_
        refine rg_put (d := 28) (v := .d (.fl (.int .i64 ((ix d.down k).fr)))) rfl (oy rfl rfl rfl h6 (op_load_el rfl Tryz.underlying3 rfl rfl rfl rfl)) ?_
        refine rg_put (d := 29) (v := .d (.fl (.int .i64 t))) rfl (oy rfl rfl rfl h6 (op_move rfl rfl rfl)) ?_
        refine rg_put (d := 30) (v := .d (.fl (.bool ((decide ((ix d.down k).fr ≤ t)))))) rfl (oy rfl rfl rfl h6 (op_bin rfl rfl rfl (b_leq _ _ _ _) rfl)) ?_
        refine rg_put (d := 31) (v := .d (.fl (.bool ((decide ((ix d.down k).fr ≤ t)))))) rfl (og rfl (op_pick rfl rfl (by rw [h6]; rfl) rfl)) ?_
        refine rg_put (d := 32) (v := .d (.fl (.bool ((decide ((ix d.down k).fr ≤ t)))))) rfl (og rfl (op_move rfl rfl rfl)) ?_
        rcases fot ((decide ((ix d.down k).fr ≤ t))) with h7 | h7
        · skip
          have h8 := f_dec h7
          refine rg_put (d := 33) (v := .d (.fl undef)) rfl (on rfl rfl rfl h7) ?_
          refine rg_put (d := 34) (v := .d (.fl undef)) rfl (on rfl rfl rfl h7) ?_
          refine rg_put (d := 35) (v := .d (.fl undef)) rfl (on rfl rfl rfl h7) ?_
          refine rg_put (d := 36) (v := .d (.fl undef)) rfl (on rfl rfl rfl h7) ?_
          refine rg_put (d := 37) (v := .d (.fl undef)) rfl (on rfl rfl rfl h7) ?_
          refine rg_put (d := 38) (v := .d (.fl undef)) rfl (on rfl rfl rfl h7) ?_
          refine rg_put (d := 39) (v := .d (.fl undef)) rfl (on rfl rfl rfl h7) ?_
          refine rg_put (d := 40) (v := .d (.fl undef)) rfl (on rfl rfl rfl h7) ?_
          refine rg_put (d := 41) (v := .d (.fl (.bool false))) rfl (og rfl (op_pick rfl rfl (by rw [h7]; rfl) rfl)) ?_
          refine rg_done rfl ?_
          refine a_condF rfl rfl ?_
          refine a_skip ?_
          show A _ _ _ _ _ _ _
          refine a_region ?_
          refine rg_put (d := 14) (v := .d (.fl (.int .i64 (k : Int)))) rfl (og rfl (op_move rfl rfl rfl)) ?_
          refine rg_put (d := 15) (v := .d (.fl (.int .i64 (((k : Int) + 1))))) rfl (og rfl (op_bin rfl rfl rfl (fun x y w => b_add64 _ _ _ x y w (by omega)) rfl)) ?_
          refine rg_put (d := 5) (v := .d (.fl (.int .i64 (((k : Int) + 1))))) rfl (og rfl (op_assign rfl rfl rfl)) ?_
          refine rg_done rfl ?_
          have hx : hasI (ix d.down k) t = false := by unfold hasI; simp only [h1, h3, h4, h6, h7, Bool.true_and, Bool.false_and, Bool.and_true, Bool.and_false] <;> rfl
          show ∃ i, _ ∧ _ ∧ Imp _ _ _ _ _
          refine ⟨k + 1, ⟨by omega, fun q h => (Nat.lt_succ_iff_lt_or_eq.1 h).elim (hq q) (fun e => by rw [e]; exact hx)⟩, by omega, imp_forget rfl ⟨rfl, rfl, rfl, rfl, (by first | rfl | exact ci (by omega) | exact ci (by simp) | exact cd (by simp) | simp), trivial⟩ ⟨rfl, trivial⟩⟩
        · skip
          have h9 := t_dec h7
          refine rg_put (d := 33) (v := .d (.fl (.int .i64 t))) rfl (oy rfl rfl rfl h7 (op_move rfl rfl rfl)) ?_
          refine rg_put (d := 34) (v := .pt 101 5) rfl (oy rfl rfl rfl h7 (of_eff (s_field_pt rfl Tryz.underlying77 rfl ti75 rfl rfl rfl) rfl)) ?_
          refine rg_put (d := 35) (v := .d (.sl 2 (List.map eIv d.down))) rfl (oy rfl rfl rfl h7 (op_load_pt rfl Tryz.underlying75 rfl rfl rfl rfl rfl)) ?_
          refine rg_put (d := 36) (v := .d (.fl (.int .i64 (k : Int)))) rfl (oy rfl rfl rfl h7 (op_move rfl rfl rfl)) ?_
          refine rg_put (d := 37) (v := .el ((eIv (ix d.down k)))) rfl (oy rfl rfl rfl h7 (s_index rfl Tryz.underlying75 ti137 rfl rfl (by omega) (row_at (by omega)) rfl)) ?_
          refine rg_put (d := 38) (v := .el ((List.drop 1 ((eIv (ix d.down k)))))) rfl (oy rfl rfl rfl h7 (of_eff (s_field_el rfl Tryz.underlying137 rfl ti3 rfl rfl rfl) rfl)) ?_
          refine rg_put (d := 39) (v := .d (.fl (.int .i64 ((ix d.down k).to)))) rfl (oy rfl rfl rfl h7 (op_load_el rfl Tryz.underlying3 rfl rfl rfl rfl)) ?_
          refine rg_put (d := 40) (v := .d (.fl (.bool ((decide (t < (ix d.down k).to)))))) rfl (oy rfl rfl rfl h7 (op_bin rfl rfl rfl (b_lss _ _ _ _) rfl)) ?_
          refine rg_put (d := 41) (v := .d (.fl (.bool ((decide (t < (ix d.down k).to)))))) rfl (og rfl (op_pick rfl rfl (by rw [h7]; rfl) rfl)) ?_
          refine rg_done rfl ?_
          refine a_cond rfl (fun h10 => ?_) (fun h10 => ?_)
          · skip
            have h11 := t_dec h10
            refine a_rseq ?_
            refine rg_put (d := 4) (v := .d (.fl (.bool false))) rfl (og rfl (op_assign rfl rfl rfl)) ?_
            refine rg_done rfl ?_
            refine a_ret ?_
            show ∃ ds, ResL _ _ _ ds ∧ RV.of ds = _
            refine ⟨[.fl (.bool false)], (.cons (.tmp rfl (.d _)) .nil), ?_⟩
            have hx : hasI (ix d.down k) t = true := by unfold hasI; simp only [h1, h3, h4, h6, h7, h10, Bool.true_and, Bool.false_and, Bool.and_true, Bool.and_false] <;> rfl
            rw [wrk_has h3 (any_at (by omega) hx)]; rfl
          · skip
            have h12 := f_dec h10
            refine a_skip ?_
            show A _ _ _ _ _ _ _
            refine a_region ?_
            refine rg_put (d := 14) (v := .d (.fl (.int .i64 (k : Int)))) rfl (og rfl (op_move rfl rfl rfl)) ?_
            refine rg_put (d := 15) (v := .d (.fl (.int .i64 (((k : Int) + 1))))) rfl (og rfl (op_bin rfl rfl rfl (fun x y w => b_add64 _ _ _ x y w (by omega)) rfl)) ?_
            refine rg_put (d := 5) (v := .d (.fl (.int .i64 (((k : Int) + 1))))) rfl (og rfl (op_assign rfl rfl rfl)) ?_
            refine rg_done rfl ?_
            have hx : hasI (ix d.down k) t = false := by unfold hasI; simp only [h1, h3, h4, h6, h7, h10, Bool.true_and, Bool.false_and, Bool.and_true, Bool.and_false] <;> rfl
            show ∃ i, _ ∧ _ ∧ Imp _ _ _ _ _
            refine ⟨k + 1, ⟨by omega, fun q h => (Nat.lt_succ_iff_lt_or_eq.1 h).elim (hq q) (fun e => by rw [e]; exact hx)⟩, by omega, imp_forget rfl ⟨rfl, rfl, rfl, rfl, (by first | rfl | exact ci (by omega) | exact ci (by simp) | exact cd (by simp) | simp), trivial⟩ ⟨rfl, trivial⟩⟩
    · skip
      have h13 := f_dec h4
      refine a_exit ?_
      show A _ _ _ _ _ _ _
      refine a_rseq ?_
      refine rg_put (d := 4) (v := .d (.fl (.bool true))) rfl (og rfl (op_assign rfl rfl rfl)) ?_
      refine rg_done rfl ?_
      refine a_ret ?_
      show ∃ ds, ResL _ _ _ ds ∧ RV.of ds = _
      refine ⟨[.fl (.bool true)], (.cons (.tmp rfl (.d _)) .nil), ?_⟩
      rw [wrk_has h3 (any_no (fun q h => hq q (by omega)))]; rfl
set_option maxHeartbeats 4000000 in
set_option maxRecDepth 100000 in
theorem clk10 (d : Dc) (raw : Int) (hl : d.offs.length ≤ 1000) (ho : ∀ o ∈ d.offs, -9223372036854775808 ≤ o.dl ∧ o.dl ≤ 9223372036854775807) : Ctr Tryz.prog 91 [.ag (eDc d), .fl (.int .i64 raw)] (.tu [.fl (.int .i64 (clk d raw).1), .fl (.bool (clk d raw).2)]) := by
  refine ctr (n := 33) (rs := #[.tmp 4, .tmp 5]) (L := [(0, .d (.ag (eDc d))), (1, .d (.fl (.int .i64 raw)))]) Tryz.func91 rfl rfl rfl rfl rfl (fun w0 U0 => ?_)
  refine a_rseq ?_
  refine rg_nam (d := 2) (v := .pt 101 0) (m := 101) (nw := [(101, .bx 77 (eDc d))]) rfl (og rfl (of_eff (op_box 101 rfl rfl rfl rfl) rfl)) rfl ?_
  refine rg_put (d := 4) (v := .d (.fl (.int .i64 0))) rfl (og rfl (op_assign rfl rfl rfl)) ?_
  refine rg_put (d := 5) (v := .d (.fl (.bool false))) rfl (og rfl (op_assign rfl rfl rfl)) ?_
  refine rg_done rfl ?_
  refine a_seq ?_
  refine a_rseq ?_
  refine rg_put (d := 9) (v := .d (.fl (.int .i64 raw))) rfl (og rfl (op_move rfl rfl rfl)) ?_
  refine rg_put (d := 10) (v := .d (.fl (.bool (isT raw)))) rfl (og rfl (op_call rfl Tryz.func119 nm119 rfl (.cons rfl (.d _) .nil) (isT23 raw) rfl)) ?_
  refine rg_put (d := 11) (v := .d (.fl (.bool ((!(isT raw)))))) rfl (og rfl (op_un rfl rfl (u_not _) rfl)) ?_
  refine rg_done rfl ?_
  refine a_cond rfl (fun h1 => ?_) (fun h1 => ?_)
  · skip
    have h2 := t_not h1
    refine a_rseq ?_
    refine rg_put (d := 4) (v := .d (.fl (.int .i64 0))) rfl (og rfl (op_assign rfl rfl rfl)) ?_
    refine rg_put (d := 5) (v := .d (.fl (.bool false))) rfl (og rfl (op_assign rfl rfl rfl)) ?_
    refine rg_done rfl ?_
    refine a_ret ?_
    show ∃ ds, ResL _ _ _ ds ∧ RV.of ds = _
    refine ⟨[.fl (.int .i64 0), .fl (.bool false)], (.cons (.tmp rfl (.d _)) (.cons (.tmp rfl (.d _)) .nil)), ?_⟩
    rw [clk_raw h2]; rfl
  · skip
    have h3 := f_not h1
    refine a_skip ?_
    show A _ _ _ _ _ _ _
    refine a_rseq ?_
    have hr := isT_t.1 h3
    refine rg_put (d := 12) (v := .d (.fl (.int .i64 raw))) rfl (og rfl (op_move rfl rfl rfl)) ?_
    refine rg_put (d := 6) (v := .d (.fl (.int .i64 raw))) rfl (og rfl (op_assign rfl rfl rfl)) ?_
    refine rg_done rfl ?_
    refine a_seq ?_
    refine a_rseq ?_
    refine rg_put (d := 13) (v := .pt 101 4) rfl (og rfl (of_eff (s_field_pt rfl Tryz.underlying77 rfl ti74 rfl rfl rfl) rfl)) ?_
    refine rg_put (d := 14) (v := .d (.sl 2 (List.map eOf d.offs))) rfl (og rfl (op_load_pt rfl Tryz.underlying74 rfl rfl rfl rfl rfl)) ?_
    refine rg_put (d := 15) (v := .d (.fl (.int .i64 (d.offs.length : Int)))) rfl (og rfl (s_len rfl Tryz.underlying74 rfl rfl)) ?_
    refine rg_put (d := 16) (v := .d (.fl (.int .i64 0))) rfl (og rfl (op_move rfl rfl rfl)) ?_
    refine rg_done rfl ?_
    refine a_block ?_
    refine a_loop (ι := Nat) (fun k => SS [(0, .d (.ag (eDc d))), (1, .d (.fl (.int .i64 raw))), (2, .pt 101 0), (4, .d (.fl (.int .i64 0))), (5, .d (.fl (.bool false))), (11, .d (.fl (.bool ((!(isT raw)))))), (14, .d (.sl 2 (List.map eOf d.offs))), (15, .d (.fl (.int .i64 (d.offs.length : Int)))), (16, .d (.fl (.int .i64 (k : Int)))), (6, .d (.fl (.int .i64 ((IntKind.i64.wrap (raw + (dl d.offs raw k)))))))] [(101, .bx 77 (eDc d))]) (fun k => k ≤ d.offs.length) (fun k => d.offs.length - k) 0 (by omega) (imp_forget rfl ⟨rfl, rfl, rfl, rfl, rfl, rfl, rfl, rfl, (by first | rfl | exact ci (by omega) | exact ci (by simp) | exact cd (by simp) | simp), (congrArg (fun z => AV.d (.fl (.int .i64 z))) (show raw = IntKind.i64.wrap (raw + 0) by rw [Int.add_zero]; exact (w64 (by omega)).symm)), trivial⟩ ⟨rfl, trivial⟩) (fun k hok => ?_)
    have hk := hok
    refine a_rseq ?_
    refine rg_put (d := 17) (v := .d (.fl (.bool ((decide ((k : Int) < (d.offs.length : Int))))))) rfl (og rfl (op_bin rfl rfl rfl (b_lss _ _ _ _) rfl)) ?_
    refine rg_done rfl ?_
    refine a_seq ?_
    refine a_cond rfl (fun h4 => ?_) (fun h4 => ?_)
    · skip
      have h5 := t_dec h4
      refine a_skip ?_
      show A _ _ _ _ _ _ _
      refine a_seq ?_
      refine a_block ?_
      refine a_rseq ?_
      refine rg_put (d := 18) (v := .el ((eOf (ix d.offs k)))) rfl (og rfl (s_index rfl Tryz.underlying74 ti134 rfl rfl (by omega) (row_at (by omega)) rfl)) ?_
      refine rg_put (d := 19) (v := .d (.ag (eOf (ix d.offs k)))) rfl (og rfl (of_eff (s_load_els rfl Tryz.underlying134 rfl ti134 rfl rfl rfl) rfl)) ?_
      refine rg_nam (d := 8) (v := .pt 102 0) (m := 102) (nw := [(102, .bx 134 [.fl (.int .i64 0), .fl (.int .i64 0)])]) rfl (og rfl (of_eff (s_alloc 102 rfl ti134 (by kernel_rfl) rfl) rfl)) rfl ?_
      refine rg_sto (nw := [(102, .bx 134 ((eOf (ix d.offs k))))]) rfl (og rfl (of_eff (s_store rfl rfl ti134 rfl rfl rfl rfl rfl rfl) rfl)) ?_
      refine rg_done rfl ?_
      refine a_rseq ?_
      refine rg_put (d := 20) (v := .pt 102 0) rfl (og rfl (of_eff (s_field_pt rfl Tryz.underlying134 rfl ti3 rfl rfl rfl) rfl)) ?_
      refine rg_put (d := 21) (v := .d (.fl (.int .i64 ((ix d.offs k).fr)))) rfl (og rfl (op_load_pt rfl Tryz.underlying3 rfl rfl rfl rfl rfl)) ?_
      refine rg_put (d := 22) (v := .d (.fl (.int .i64 raw))) rfl (og rfl (op_move rfl rfl rfl)) ?_
      refine rg_put (d := 23) (v := .d (.fl (.bool ((decide ((ix d.offs k).fr ≤ raw)))))) rfl (og rfl (op_bin rfl rfl rfl (b_leq _ _ _ _) rfl)) ?_
      refine rg_done rfl ?_
      refine a_cond rfl (fun h6 => ?_) (fun h6 => ?_)
      · skip
        have h7 := t_dec h6
        refine a_region ?_
        refine rg_put (d := 24) (v := .d (.fl (.int .i64 raw))) rfl (og rfl (op_move rfl rfl rfl)) ?_
        refine rg_put (d := 25) (v := .pt 102 1) rfl (og rfl (of_eff (s_field_pt rfl Tryz.underlying134 rfl ti3 rfl rfl rfl) rfl)) ?_
        refine rg_put (d := 26) (v := .d (.fl (.int .i64 ((ix d.offs k).dl)))) rfl (og rfl (op_load_pt rfl Tryz.underlying3 rfl rfl rfl rfl rfl)) ?_
        refine rg_put (d := 27) (v := .d (.fl (.int .i64 ((IntKind.i64.wrap (raw + (ix d.offs k).dl)))))) rfl (og rfl (op_bin rfl rfl rfl (b_add _ _ _ _) rfl)) ?_
        refine rg_put (d := 6) (v := .d (.fl (.int .i64 ((IntKind.i64.wrap (raw + (ix d.offs k).dl)))))) rfl (og rfl (op_assign rfl rfl rfl)) ?_
        refine rg_done rfl ?_
        show A _ _ _ _ _ _ _
        refine a_region ?_
        refine rg_put (d := 28) (v := .d (.fl (.int .i64 (((k : Int) + 1))))) rfl (og rfl (op_bin rfl rfl rfl (fun x y w => b_add64 _ _ _ x y w (by omega)) rfl)) ?_
        refine rg_put (d := 16) (v := .d (.fl (.int .i64 (((k : Int) + 1))))) rfl (og rfl (op_move rfl rfl rfl)) ?_
        refine rg_done rfl ?_
        show ∃ i, _ ∧ _ ∧ Imp _ _ _ _ _
        refine ⟨k + 1, (by omega), by omega, imp_forget rfl ⟨rfl, rfl, rfl, rfl, rfl, rfl, rfl, rfl, (by first | rfl | exact ci (by omega) | exact ci (by simp) | exact cd (by simp) | simp), (congrArg (fun z => AV.d (.fl (.int .i64 (IntKind.i64.wrap (raw + z))))) (dl_yes h6)), trivial⟩ ⟨rfl, trivial⟩⟩
      · skip
        have h8 := f_dec h6
        refine a_skip ?_
        show A _ _ _ _ _ _ _
        refine a_region ?_
        refine rg_put (d := 28) (v := .d (.fl (.int .i64 (((k : Int) + 1))))) rfl (og rfl (op_bin rfl rfl rfl (fun x y w => b_add64 _ _ _ x y w (by omega)) rfl)) ?_
        refine rg_put (d := 16) (v := .d (.fl (.int .i64 (((k : Int) + 1))))) rfl (og rfl (op_move rfl rfl rfl)) ?_
        refine rg_done rfl ?_
        show ∃ i, _ ∧ _ ∧ Imp _ _ _ _ _
        refine ⟨k + 1, (by omega), by omega, imp_forget rfl ⟨rfl, rfl, rfl, rfl, rfl, rfl, rfl, rfl, (by first | rfl | exact ci (by omega) | exact ci (by simp) | exact cd (by simp) | simp), (congrArg (fun z => AV.d (.fl (.int .i64 (IntKind.i64.wrap (raw + z))))) (dl_no h6)), trivial⟩ ⟨rfl, trivial⟩⟩
    · skip
      have h9 := f_dec h4
      refine a_exit ?_
      show A _ _ _ _ _ _ _
      refine a_seq ?_
      refine a_rseq ?_
      have hkl : k = d.offs.length := by omega
      rw [show (dl d.offs raw k) = (dl d.offs raw d.offs.length) from by rw [hkl]]
      have hd := dl_in (raw := raw) ho _ (Nat.le_refl _)
      have hw := wrap_time hr hd
      refine rg_put (d := 29) (v := .d (.fl (.int .i64 ((IntKind.i64.wrap (raw + (dl d.offs raw d.offs.length))))))) rfl (og rfl (op_move rfl rfl rfl)) ?_
      refine rg_put (d := 30) (v := .d (.fl (.bool ((isT ((IntKind.i64.wrap (raw + (dl d.offs raw d.offs.length))))))))) rfl (og rfl (op_call rfl Tryz.func119 nm119 rfl (.cons rfl (.d _) .nil) (isT23 ((IntKind.i64.wrap (raw + (dl d.offs raw d.offs.length))))) rfl)) ?_
      refine rg_put (d := 31) (v := .d (.fl (.bool ((!((isT ((IntKind.i64.wrap (raw + (dl d.offs raw d.offs.length))))))))))) rfl (og rfl (op_un rfl rfl (u_not _) rfl)) ?_
      refine rg_done rfl ?_
      refine a_cond rfl (fun h10 => ?_) (fun h10 => ?_)
      · skip
        have h11 := t_not h10
        refine a_rseq ?_
        refine rg_put (d := 4) (v := .d (.fl (.int .i64 0))) rfl (og rfl (op_assign rfl rfl rfl)) ?_
        refine rg_put (d := 5) (v := .d (.fl (.bool false))) rfl (og rfl (op_assign rfl rfl rfl)) ?_
        refine rg_done rfl ?_
        refine a_ret ?_
        show ∃ ds, ResL _ _ _ ds ∧ RV.of ds = _
        refine ⟨[.fl (.int .i64 0), .fl (.bool false)], (.cons (.tmp rfl (.d _)) (.cons (.tmp rfl (.d _)) .nil)), ?_⟩
        rw [clk_no (hw.symm.trans h11)]; rfl
      · skip
        have h12 := f_not h10
        refine a_skip ?_
        show A _ _ _ _ _ _ _
        refine a_rseq ?_
        refine rg_put (d := 32) (v := .d (.fl (.int .i64 ((IntKind.i64.wrap (raw + (dl d.offs raw d.offs.length))))))) rfl (og rfl (op_move rfl rfl rfl)) ?_
        refine rg_put (d := 4) (v := .d (.fl (.int .i64 ((IntKind.i64.wrap (raw + (dl d.offs raw d.offs.length))))))) rfl (og rfl (op_assign rfl rfl rfl)) ?_
        refine rg_put (d := 5) (v := .d (.fl (.bool true))) rfl (og rfl (op_assign rfl rfl rfl)) ?_
        refine rg_done rfl ?_
        refine a_ret ?_
        show ∃ ds, ResL _ _ _ ds ∧ RV.of ds = _
        refine ⟨[.fl (.int .i64 ((IntKind.i64.wrap (raw + (dl d.offs raw d.offs.length))))), .fl (.bool true)], (.cons (.tmp rfl (.d _)) (.cons (.tmp rfl (.d _)) .nil)), ?_⟩
        have h9 := hw.symm.trans h12
        rw [clk_ok h3 h9, wrap_is h9]; rfl
set_option maxHeartbeats 4000000 in
set_option maxRecDepth 100000 in
theorem clk11 (d : Dc) (raw : Int) (hl : d.offs.length ≤ 1000) (ho : ∀ o ∈ d.offs, -9223372036854775808 ≤ o.dl ∧ o.dl ≤ 9223372036854775807) : Ctr Tryz.prog 48 [.ag (eDc d), .fl (.int .i64 raw)] (.tu [.fl (.int .i64 (clk d raw).1), .fl (.bool (clk d raw).2)]) := by
  refine ctr (n := 45) (rs := #[.tmp 4, .tmp 5]) (L := [(0, .d (.ag (eDc d))), (1, .d (.fl (.int .i64 raw)))]) Tryz.func48 rfl rfl rfl rfl rfl (fun w0 U0 => ?_)
  refine a_rseq ?_
  refine rg_nam (d := 2) (v := .pt 101 0) (m := 101) (nw := [(101, .bx 77 (eDc d))]) rfl (og rfl (of_eff (op_box 101 rfl rfl rfl rfl) rfl)) rfl ?_
  refine rg_put (d := 4) (v := .d (.fl (.int .i64 0))) rfl (og rfl (op_assign rfl rfl rfl)) ?_
  refine rg_put (d := 5) (v := .d (.fl (.bool false))) rfl (og rfl (op_assign rfl rfl rfl)) ?_
  refine rg_done rfl ?_
  refine a_seq ?_
  refine a_rseq ?_
  refine rg_put (d := 8) (v := .d (.fl (.int .i64 raw))) rfl (og rfl (op_move rfl rfl rfl)) ?_
  refine rg_put (d := 9) (v := .d (.fl (.bool (isT raw)))) rfl (og rfl (op_call rfl Tryz.func83 nm83 rfl (.cons rfl (.d _) .nil) (isT24 raw) rfl)) ?_
  refine rg_put (d := 10) (v := .d (.fl (.bool ((!(isT raw)))))) rfl (og rfl (op_un rfl rfl (u_not _) rfl)) ?_
  refine rg_done rfl ?_
  refine a_cond rfl (fun h1 => ?_) (fun h1 => ?_)
  · skip
    have h2 := t_not h1
    refine a_rseq ?_
    refine rg_put (d := 4) (v := .d (.fl (.int .i64 0))) rfl (og rfl (op_assign rfl rfl rfl)) ?_
    refine rg_put (d := 5) (v := .d (.fl (.bool false))) rfl (og rfl (op_assign rfl rfl rfl)) ?_
    refine rg_done rfl ?_
    refine a_ret ?_
    show ∃ ds, ResL _ _ _ ds ∧ RV.of ds = _
    refine ⟨[.fl (.int .i64 0), .fl (.bool false)], (.cons (.tmp rfl (.d _)) (.cons (.tmp rfl (.d _)) .nil)), ?_⟩
    rw [clk_raw h2]; rfl
  · skip
    have h3 := f_not h1
    refine a_skip ?_
    show A _ _ _ _ _ _ _
    refine a_rseq ?_
    have hr := isT_t.1 h3
    refine rg_put (d := 6) (v := .d (.fl (.int .i64 0))) rfl (og rfl (op_assign rfl rfl rfl)) ?_
    refine rg_done rfl ?_
    refine a_seq ?_
    refine a_rseq ?_
    refine rg_put (d := 7) (v := .d (.fl (.int .i64 0))) rfl (og rfl (op_assign rfl rfl rfl)) ?_
    refine rg_done rfl ?_
    refine a_block ?_
    refine a_loop (ι := Nat) (fun k => SS [(0, .d (.ag (eDc d))), (1, .d (.fl (.int .i64 raw))), (2, .pt 101 0), (4, .d (.fl (.int .i64 0))), (5, .d (.fl (.bool false))), (10, .d (.fl (.bool ((!(isT raw)))))), (7, .d (.fl (.int .i64 (k : Int)))), (6, .d (.fl (.int .i64 (dl d.offs raw k))))] [(101, .bx 77 (eDc d))]) (fun k => k ≤ d.offs.length) (fun k => d.offs.length - k) 0 (by omega) (imp_forget rfl ⟨rfl, rfl, rfl, rfl, rfl, rfl, (by first | rfl | exact ci (by omega) | exact ci (by simp) | exact cd (by simp) | simp), rfl, trivial⟩ ⟨rfl, trivial⟩) (fun k hok => ?_)
    have hk := hok
    refine a_seq ?_
    refine a_rseq ?_
    refine rg_put (d := 11) (v := .d (.fl (.int .i64 (k : Int)))) rfl (og rfl (op_move rfl rfl rfl)) ?_
    refine rg_put (d := 12) (v := .pt 101 4) rfl (og rfl (of_eff (s_field_pt rfl Tryz.underlying77 rfl ti74 rfl rfl rfl) rfl)) ?_
    refine rg_put (d := 13) (v := .d (.sl 2 (List.map eOf d.offs))) rfl (og rfl (op_load_pt rfl Tryz.underlying74 rfl rfl rfl rfl rfl)) ?_
    refine rg_put (d := 14) (v := .d (.fl (.int .i64 (d.offs.length : Int)))) rfl (og rfl (s_len rfl Tryz.underlying74 rfl rfl)) ?_
    refine rg_put (d := 15) (v := .d (.fl (.bool ((decide ((k : Int) < (d.offs.length : Int))))))) rfl (og rfl (op_bin rfl rfl rfl (b_lss _ _ _ _) rfl)) ?_
    refine rg_done rfl ?_
    refine a_cond rfl (fun h4 => ?_) (fun h4 => ?_)
    · skip
      have h5 := t_dec h4
      refine a_skip ?_
      show A _ _ _ _ _ _ _
      refine a_seq ?_
      refine a_block ?_
      refine a_rseq ?_
      refine rg_put (d := 18) (v := .pt 101 4) rfl (og rfl (of_eff (s_field_pt rfl Tryz.underlying77 rfl ti74 rfl rfl rfl) rfl)) ?_
      refine rg_put (d := 19) (v := .d (.sl 2 (List.map eOf d.offs))) rfl (og rfl (op_load_pt rfl Tryz.underlying74 rfl rfl rfl rfl rfl)) ?_
      refine rg_put (d := 20) (v := .d (.fl (.int .i64 (k : Int)))) rfl (og rfl (op_move rfl rfl rfl)) ?_
      refine rg_put (d := 21) (v := .el ((eOf (ix d.offs k)))) rfl (og rfl (s_index rfl Tryz.underlying74 ti134 rfl rfl (by omega) (row_at (by omega)) rfl)) ?_
      refine rg_put (d := 22) (v := .el ((List.drop 0 ((eOf (ix d.offs k)))))) rfl (og rfl (of_eff (s_field_el rfl Tryz.underlying134 rfl ti3 rfl rfl rfl) rfl)) ?_
      refine rg_put (d := 23) (v := .d (.fl (.int .i64 ((ix d.offs k).fr)))) rfl (og rfl (op_load_el rfl Tryz.underlying3 rfl rfl rfl rfl)) ?_
      refine rg_put (d := 24) (v := .d (.fl (.int .i64 raw))) rfl (og rfl (op_move rfl rfl rfl)) ?_
      refine rg_put (d := 25) (v := .d (.fl (.bool ((decide ((ix d.offs k).fr ≤ raw)))))) rfl (og rfl (op_bin rfl rfl rfl (b_leq _ _ _ _) rfl)) ?_
      refine rg_done rfl ?_
      refine a_cond rfl (fun h6 => ?_) (fun h6 => ?_)
      · skip
        have h7 := t_dec h6
        refine a_region ?_
        refine rg_put (d := 26) (v := .pt 101 4) rfl (og rfl (of_eff (s_field_pt rfl Tryz.underlying77 rfl ti74 rfl rfl rfl) rfl)) ?_
        refine rg_put (d := 27) (v := .d (.sl 2 (List.map eOf d.offs))) rfl (og rfl (op_load_pt rfl Tryz.underlying74 rfl rfl rfl rfl rfl)) ?_
        refine rg_put (d := 28) (v := .d (.fl (.int .i64 (k : Int)))) rfl (og rfl (op_move rfl rfl rfl)) ?_
        refine rg_put (d := 29) (v := .el ((eOf (ix d.offs k)))) rfl (og rfl (s_index rfl Tryz.underlying74 ti134 rfl rfl (by omega) (row_at (by omega)) rfl)) ?_
        refine rg_put (d := 30) (v := .el ((List.drop 1 ((eOf (ix d.offs k)))))) rfl (og rfl (of_eff (s_field_el rfl Tryz.underlying134 rfl ti3 rfl rfl rfl) rfl)) ?_
        refine rg_put (d := 31) (v := .d (.fl (.int .i64 ((ix d.offs k).dl)))) rfl (og rfl (op_load_el rfl Tryz.underlying3 rfl rfl rfl rfl)) ?_
        refine rg_put (d := 6) (v := .d (.fl (.int .i64 ((ix d.offs k).dl)))) rfl (og rfl (op_assign rfl rfl rfl)) ?_
        refine rg_done rfl ?_
        show A _ _ _ _ _ _ _
        refine a_region ?_
        refine rg_put (d := 16) (v := .d (.fl (.int .i64 (k : Int)))) rfl (og rfl (op_move rfl rfl rfl)) ?_
        refine rg_put (d := 17) (v := .d (.fl (.int .i64 (((k : Int) + 1))))) rfl (og rfl (op_bin rfl rfl rfl (fun x y w => b_add64 _ _ _ x y w (by omega)) rfl)) ?_
        refine rg_put (d := 7) (v := .d (.fl (.int .i64 (((k : Int) + 1))))) rfl (og rfl (op_assign rfl rfl rfl)) ?_
        refine rg_done rfl ?_
        show ∃ i, _ ∧ _ ∧ Imp _ _ _ _ _
        refine ⟨k + 1, (by omega), by omega, imp_forget rfl ⟨rfl, rfl, rfl, rfl, rfl, rfl, (by first | rfl | exact ci (by omega) | exact ci (by simp) | exact cd (by simp) | simp), (congrArg (fun z => AV.d (.fl (.int .i64 z))) (dl_yes h6)), trivial⟩ ⟨rfl, trivial⟩⟩
      · skip
        have h8 := f_dec h6
        refine a_skip ?_
        show A _ _ _ _ _ _ _
        refine a_region ?_
        refine rg_put (d := 16) (v := .d (.fl (.int .i64 (k : Int)))) rfl (og rfl (op_move rfl rfl rfl)) ?_
        refine rg_put (d := 17) (v := .d (.fl (.int .i64 (((k : Int) + 1))))) rfl (og rfl (op_bin rfl rfl rfl (fun x y w => b_add64 _ _ _ x y w (by omega)) rfl)) ?_
        refine rg_put (d := 7) (v := .d (.fl (.int .i64 (((k : Int) + 1))))) rfl (og rfl (op_assign rfl rfl rfl)) ?_
        refine rg_done rfl ?_
        show ∃ i, _ ∧ _ ∧ Imp _ _ _ _ _
        refine ⟨k + 1, (by omega), by omega, imp_forget rfl ⟨rfl, rfl, rfl, rfl, rfl, rfl, (by first | rfl | exact ci (by omega) | exact ci (by simp) | exact cd (by simp) | simp), (congrArg (fun z => AV.d (.fl (.int .i64 z))) (dl_no h6)), trivial⟩ ⟨rfl, trivial⟩⟩
    · skip
      have h9 := f_dec h4
      refine a_exit ?_
      show A _ _ _ _ _ _ _
      refine a_seq ?_
      refine a_rseq ?_
      have hkl : k = d.offs.length := by omega
      rw [show (dl d.offs raw k) = (dl d.offs raw d.offs.length) from by rw [hkl]]
      have hd := dl_in (raw := raw) ho _ (Nat.le_refl _)
      refine rg_put (d := 32) (v := .d (.fl (.int .i64 (dl d.offs raw d.offs.length)))) rfl (og rfl (op_move rfl rfl rfl)) ?_
      refine rg_put (d := 33) (v := .d (.fl (.int .i64 raw))) rfl (og rfl (op_move rfl rfl rfl)) ?_
      refine rg_put (d := 34) (v := .d (.fl (.int .i64 (-raw)))) rfl (og rfl (op_un rfl rfl (fun w => u_neg64 _ w (by omega)) rfl)) ?_
      refine rg_put (d := 35) (v := .d (.fl (.bool ((decide ((dl d.offs raw d.offs.length) < (-raw))))))) rfl (og rfl (op_bin rfl rfl rfl (b_lss _ _ _ _) rfl)) ?_
      refine rg_put (d := 36) (v := .d (.fl (.bool ((decide ((dl d.offs raw d.offs.length) < (-raw))))))) rfl (og rfl (op_move rfl rfl rfl)) ?_
      rcases fot ((decide ((dl d.offs raw d.offs.length) < (-raw)))) with h10 | h10
      · skip
        have h11 := f_dec h10
        refine rg_put (d := 37) (v := .d (.fl (.int .i64 (dl d.offs raw d.offs.length)))) rfl (oy rfl rfl rfl h10 (op_move rfl rfl rfl)) ?_
        refine rg_put (d := 38) (v := .d (.fl (.int .i64 raw))) rfl (oy rfl rfl rfl h10 (op_move rfl rfl rfl)) ?_
        refine rg_put (d := 39) (v := .d (.fl (.int .i64 (68719476736 - raw)))) rfl (oy rfl rfl rfl h10 (op_bin rfl rfl rfl (fun x y w => b_sub64 _ _ _ x y w (by omega)) rfl)) ?_
        refine rg_put (d := 40) (v := .d (.fl (.bool ((decide ((68719476736 - raw) ≤ (dl d.offs raw d.offs.length))))))) rfl (oy rfl rfl rfl h10 (op_bin rfl rfl rfl (b_geq _ _ _ _) rfl)) ?_
        refine rg_put (d := 41) (v := .d (.fl (.bool ((decide ((68719476736 - raw) ≤ (dl d.offs raw d.offs.length))))))) rfl (og rfl (op_pick rfl rfl (by rw [h10]; rfl) rfl)) ?_
        refine rg_done rfl ?_
        refine a_cond rfl (fun h12 => ?_) (fun h12 => ?_)
        · skip
          have h13 := t_dec h12
          refine a_rseq ?_
          refine rg_put (d := 4) (v := .d (.fl (.int .i64 0))) rfl (og rfl (op_assign rfl rfl rfl)) ?_
          refine rg_put (d := 5) (v := .d (.fl (.bool false))) rfl (og rfl (op_assign rfl rfl rfl)) ?_
          refine rg_done rfl ?_
          refine a_ret ?_
          show ∃ ds, ResL _ _ _ ds ∧ RV.of ds = _
          refine ⟨[.fl (.int .i64 0), .fl (.bool false)], (.cons (.tmp rfl (.d _)) (.cons (.tmp rfl (.d _)) .nil)), ?_⟩
          have h9 : isT (raw + dl d.offs raw d.offs.length) = false := by rw [Bool.eq_false_iff]; intro h; have := isT_t.1 h; omega
          rw [clk_no h9]; rfl
        · skip
          have h14 := f_dec h12
          refine a_skip ?_
          show A _ _ _ _ _ _ _
          refine a_rseq ?_
          refine rg_put (d := 42) (v := .d (.fl (.int .i64 raw))) rfl (og rfl (op_move rfl rfl rfl)) ?_
          refine rg_put (d := 43) (v := .d (.fl (.int .i64 (dl d.offs raw d.offs.length)))) rfl (og rfl (op_move rfl rfl rfl)) ?_
          refine rg_put (d := 44) (v := .d (.fl (.int .i64 ((raw + (dl d.offs raw d.offs.length)))))) rfl (og rfl (op_bin rfl rfl rfl (fun x y w => b_add64 _ _ _ x y w (by omega)) rfl)) ?_
          refine rg_put (d := 4) (v := .d (.fl (.int .i64 ((raw + (dl d.offs raw d.offs.length)))))) rfl (og rfl (op_assign rfl rfl rfl)) ?_
          refine rg_put (d := 5) (v := .d (.fl (.bool true))) rfl (og rfl (op_assign rfl rfl rfl)) ?_
          refine rg_done rfl ?_
          refine a_ret ?_
          show ∃ ds, ResL _ _ _ ds ∧ RV.of ds = _
          refine ⟨[.fl (.int .i64 ((raw + (dl d.offs raw d.offs.length)))), .fl (.bool true)], (.cons (.tmp rfl (.d _)) (.cons (.tmp rfl (.d _)) .nil)), ?_⟩
          have h9 : isT (raw + dl d.offs raw d.offs.length) = true := isT_t.2 (by omega)
          rw [clk_ok h3 h9]; rfl
      · skip
        have h15 := t_dec h10
        refine rg_put (d := 37) (v := .d (.fl undef)) rfl (on rfl rfl rfl h10) ?_
        refine rg_put (d := 38) (v := .d (.fl undef)) rfl (on rfl rfl rfl h10) ?_
        refine rg_put (d := 39) (v := .d (.fl undef)) rfl (on rfl rfl rfl h10) ?_
        refine rg_put (d := 40) (v := .d (.fl undef)) rfl (on rfl rfl rfl h10) ?_
        refine rg_put (d := 41) (v := .d (.fl (.bool true))) rfl (og rfl (op_pick rfl rfl (by rw [h10]; rfl) rfl)) ?_
        refine rg_done rfl ?_
        refine a_condK rfl rfl ?_
        refine a_rseq ?_
        refine rg_put (d := 4) (v := .d (.fl (.int .i64 0))) rfl (og rfl (op_assign rfl rfl rfl)) ?_
        refine rg_put (d := 5) (v := .d (.fl (.bool false))) rfl (og rfl (op_assign rfl rfl rfl)) ?_
        refine rg_done rfl ?_
        refine a_ret ?_
        show ∃ ds, ResL _ _ _ ds ∧ RV.of ds = _
        refine ⟨[.fl (.int .i64 0), .fl (.bool false)], (.cons (.tmp rfl (.d _)) (.cons (.tmp rfl (.d _)) .nil)), ?_⟩
        have h9 : isT (raw + dl d.offs raw d.offs.length) = false := by rw [Bool.eq_false_iff]; intro h; have := isT_t.1 h; omega
        rw [clk_no h9]; rfl
end Go.Proofs.YtgelodnkfajgjaaGreatDoor.Dw
