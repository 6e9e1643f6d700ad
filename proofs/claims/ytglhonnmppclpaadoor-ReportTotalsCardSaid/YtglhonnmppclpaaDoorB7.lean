/- The report of a case, both sides. Conditions: at most 40 cases, texts of at most 200 bytes. -/
import Derived.Test.YtglhonnmppclpaaDoorB6
set_option linter.unusedSimpArgs false
set_option linter.unusedVariables false
namespace Go.Proofs.YtglhonnmppclpaaDoor.Wk
open Go Go.RowKit Go.Proofs.YtglhonnmppclpaaDoor.Av
def du (w : Lw) (cal : List Int) (x : Cs) : Int × Bool := Go.Proofs.YtglhonnmppclpaaDoor.Lq.due w cal x
theorem du19 (w : Lw) (cal : List Int) (x : Cs) (h : cal.length < 9223372036854775807) : Ctr Tryd.prog 47 [.ag (eLw w), .sl 1 (List.map (rI .i64) cal), .ag (eCs x)] (.tu [.fl (.int .i64 (du w cal x).1), .fl (.bool (du w cal x).2)]) := Go.Proofs.YtglhonnmppclpaaDoor.Lq.due19 w cal x h
theorem du20 (w : Lw) (cal : List Int) (x : Cs) (h : cal.length < 9223372036854775807) : Ctr Tryd.prog 52 [.ag (eLw w), .sl 1 (List.map (rI .i64) cal), .ag (eCs x)] (.tu [.fl (.int .i64 (du w cal x).1), .fl (.bool (du w cal x).2)]) := Go.Proofs.YtglhonnmppclpaaDoor.Lq.due20 w cal x h
theorem GA_drop {n : Int} (h0 : 0 ≤ n) (h1 : n < 8) : (List.drop n.toNat GA)[0]? = some (.fl (.string (ix stw n.toNat))) := by
  unfold GA
  rw [List.getElem?_drop, List.getElem?_map, Nat.add_zero, ix_get (show n.toNat < stw.length by show n.toNat < 8; omega)]
  rfl
theorem GB_drop {n : Int} (h0 : 0 ≤ n) (h1 : n < 3) : (List.drop n.toNat GB)[0]? = some (.fl (.string (ix apw n.toNat))) := by
  unfold GB
  rw [List.getElem?_drop, List.getElem?_map, Nat.add_zero, ix_get (show n.toNat < apw.length by show n.toNat < 3; omega)]
  rfl
/-- the word of a number from 1 on -/
def wd (l : List ByteArray) (n : Int) : ByteArray := if decide (n < 1) = true then (⟨#[45]⟩ : ByteArray) else if decide ((l.length : Int) < n) = true then (⟨#[45]⟩ : ByteArray) else ix l (n - 1).toNat
theorem wd_lo {l : List ByteArray} {n : Int} (h : decide (n < 1) = true) : wd l n = (⟨#[45]⟩ : ByteArray) := if_pos h
theorem wd_hi {l : List ByteArray} {n : Int} (h : decide (n < 1) = false) (h2 : decide ((l.length : Int) < n) = true) : wd l n = (⟨#[45]⟩ : ByteArray) := by unfold wd; rw [if_neg (by rw [h]; decide), if_pos h2]
theorem wd_in {l : List ByteArray} {n : Int} (h : decide (n < 1) = false) (h2 : decide ((l.length : Int) < n) = false) : wd l n = ix l (n - 1).toNat := by unfold wd; rw [if_neg (by rw [h]; decide), if_neg (by rw [h2]; decide)]
theorem stw_size : ∀ n, n < 8 → (ix stw n).size ≤ 12 := by decide +kernel
theorem apw_size : ∀ n, n < 3 → (ix apw n).size ≤ 12 ∧ sEq (ix apw n) (⟨#[45]⟩ : ByteArray) = false := by decide +kernel
theorem wd_stw (n : Int) : (wd stw n).size ≤ 12 := by
  cases h : decide (n < 1) with
  | true => rw [wd_lo h]; decide
  | false =>
    cases h2 : decide ((stw.length : Int) < n) with
    | true => rw [wd_hi h h2]; decide
    | false =>
      rw [wd_in h h2]
      have h3 := of_decide_eq_false h
      have h4 : ¬ (8 : Int) < n := of_decide_eq_false h2
      exact stw_size _ (by omega)
theorem wd_apw (n : Int) : (wd apw n).size ≤ 12 := by
  cases h : decide (n < 1) with
  | true => rw [wd_lo h]; decide
  | false =>
    cases h2 : decide ((apw.length : Int) < n) with
    | true => rw [wd_hi h h2]; decide
    | false =>
      rw [wd_in h h2]
      have h3 := of_decide_eq_false h
      have h4 : ¬ (3 : Int) < n := of_decide_eq_false h2
      exact (apw_size _ (by omega)).1
def apT (a : Ap) : ByteArray := if sEq (wd apw a.state) (⟨#[45]⟩ : ByteArray) = true then (⟨#[45]⟩ : ByteArray) else jn [wd apw a.state, dtS a.day]
theorem apT_dash {a : Ap} (h : sEq (wd apw a.state) (⟨#[45]⟩ : ByteArray) = true) : apT a = (⟨#[45]⟩ : ByteArray) := if_pos h
theorem apT_in {a : Ap} (h : sEq (wd apw a.state) (⟨#[45]⟩ : ByteArray) = false) : apT a = jn [wd apw a.state, dtS a.day] := if_neg (by rw [h]; decide)
theorem dash_lo {n : Int} (h : decide (n < 1) = true) : sEq (wd apw n) (⟨#[45]⟩ : ByteArray) = true := by rw [wd_lo h]; exact eq_self_s _
theorem dash_hi {n : Int} (h : decide (n < 1) = false) (h2 : decide ((3 : Int) < n) = true) : sEq (wd apw n) (⟨#[45]⟩ : ByteArray) = true := by rw [wd_hi h (by exact h2)]; exact eq_self_s _
theorem dash_in {n : Int} (h : decide (n < 1) = false) (h2 : decide ((3 : Int) < n) = false) : sEq (wd apw n) (⟨#[45]⟩ : ByteArray) = false := by
  rw [wd_in h (by exact h2)]
  have h3 := of_decide_eq_false h
  have h4 := of_decide_eq_false h2
  exact (apw_size _ (by omega)).2
theorem jn_jn (a b c : ByteArray) : jn [a, jn [b, c]] = jn [a, b, c] := by
  rw [jn_two, jn_two, show [a, b, c] = [a, b] ++ [c] from rfl, jn_three]
  simp only [ba_assoc]
theorem ap_jn2 (a : Ap) : (jn [wd apw a.state, dtS a.day]).size ≤ 142 := jn_bound (c := 70) (List.forall_mem_cons.2 ⟨(Nat.le_trans (wd_apw _) (by decide)), (List.forall_mem_cons.2 ⟨(dtS_size _), (fun _ h => by cases h)⟩)⟩)
theorem apT_size (a : Ap) : (apT a).size ≤ 142 := by
  unfold apT
  split
  · decide
  · exact ap_jn2 a
def dueT (s : Sa) (x : Cs) : ByteArray := if (du s.cfg.law s.cfg.hol x).2 = true then dtS (du s.cfg.law s.cfg.hol x).1 else (⟨#[45]⟩ : ByteArray)
theorem dueT_yes {s : Sa} {x : Cs} (h : (du s.cfg.law s.cfg.hol x).2 = true) : dueT s x = dtS (du s.cfg.law s.cfg.hol x).1 := if_pos h
theorem dueT_no {s : Sa} {x : Cs} (h : (du s.cfg.law s.cfg.hol x).2 = false) : dueT s x = (⟨#[45]⟩ : ByteArray) := if_neg (by rw [h]; decide)
theorem dueT_size (s : Sa) (x : Cs) : (dueT s x).size ≤ 70 := by
  unfold dueT
  split
  · exact dtS_size _
  · decide
structure OkX (x : Cs) : Prop where
  id : x.id.size ≤ 200
  plate : x.plate.size ≤ 200
  key : x.key.size ≤ 200
  owed : in64 x.owed
  paid : in64 x.paid
structure OkQ (s : Sa) : Prop where
  len : s.cases.length ≤ 40
  cs : ∀ q, q < s.cases.length → OkX (ix s.cases q)
  hol : s.cfg.hol.length < 9223372036854775807
theorem c1_jn {x : Cs} (h : OkX x) : (jn [⟨#[99, 97, 115, 101]⟩, es x.id, es x.plate, es x.key]).size ≤ 2408 := jn_bound (c := 601) (List.forall_mem_cons.2 ⟨(by decide), (List.forall_mem_cons.2 ⟨(by have := es_size h.id; omega), (List.forall_mem_cons.2 ⟨(by have := es_size h.plate; omega), (List.forall_mem_cons.2 ⟨(by have := es_size h.key; omega), (fun _ h => by cases h)⟩)⟩)⟩)⟩)
theorem c1_ln {x : Cs} (h : OkX x) : (ln [⟨#[99, 97, 115, 101]⟩, es x.id, es x.plate, es x.key]).size ≤ 2409 := by have h1 := c1_jn h; have h2 := ln_size [⟨#[99, 97, 115, 101]⟩, es x.id, es x.plate, es x.key]; omega
theorem c2_jn (x : Cs) : (jn [⟨#[115, 116, 97, 103, 101]⟩, wd stw x.stage, dtS x.since]).size ≤ 213 := jn_bound (c := 70) (List.forall_mem_cons.2 ⟨(by decide), (List.forall_mem_cons.2 ⟨(Nat.le_trans (wd_stw _) (by decide)), (List.forall_mem_cons.2 ⟨(dtS_size _), (fun _ h => by cases h)⟩)⟩)⟩)
theorem c2_ln (x : Cs) : (ln [⟨#[115, 116, 97, 103, 101]⟩, wd stw x.stage, dtS x.since]).size ≤ 214 := by have h1 := c2_jn x; have h2 := ln_size [⟨#[115, 116, 97, 103, 101]⟩, wd stw x.stage, dtS x.since]; omega
theorem c3_jn {w : ByteArray} {n : Int} (hw : w.size ≤ 12) (h : in64 n) : (jn [w, sh n]).size ≤ 52 := jn_bound (c := 25) (List.forall_mem_cons.2 ⟨(by omega), (List.forall_mem_cons.2 ⟨(sh_size h), (fun _ h => by cases h)⟩)⟩)
theorem c3_ln {w : ByteArray} {n : Int} (hw : w.size ≤ 12) (h : in64 n) : (ln [w, sh n]).size ≤ 53 := by have h1 := c3_jn hw h; have h2 := ln_size [w, sh n]; omega
theorem c5_jn {w b : ByteArray} (hw : w.size ≤ 12) (h : b.size ≤ 142) : (jn [w, b]).size ≤ 286 := jn_bound (c := 142) (List.forall_mem_cons.2 ⟨(by omega), (List.forall_mem_cons.2 ⟨h, (fun _ h => by cases h)⟩)⟩)
theorem c5_ln {w b : ByteArray} (hw : w.size ≤ 12) (h : b.size ≤ 142) : (ln [w, b]).size ≤ 287 := by have h1 := c5_jn hw h; have h2 := ln_size [w, b]; omega
/-- the report of a case -/
def cS (s : Sa) (x : Cs) : ByteArray := (((((ln [⟨#[99, 97, 115, 101]⟩, es x.id, es x.plate, es x.key]) ++ ln [⟨#[115, 116, 97, 103, 101]⟩, wd stw x.stage, dtS x.since]) ++ ln [⟨#[111, 119, 101, 100]⟩, sh x.owed]) ++ ln [⟨#[112, 97, 105, 100]⟩, sh x.paid]) ++ ln [⟨#[100, 117, 101]⟩, dueT s x]) ++ ln [⟨#[97, 112, 112, 101, 97, 108]⟩, apT x.ap]
theorem cS_jc (s : Sa) (x : Cs) : Go.Proofs.YtglhonnmppclpaaDoor.Ow.jc [ln [⟨#[99, 97, 115, 101]⟩, es x.id, es x.plate, es x.key], ln [⟨#[115, 116, 97, 103, 101]⟩, wd stw x.stage, dtS x.since], ln [⟨#[111, 119, 101, 100]⟩, sh x.owed], ln [⟨#[112, 97, 105, 100]⟩, sh x.paid], ln [⟨#[100, 117, 101]⟩, dueT s x], ln [⟨#[97, 112, 112, 101, 97, 108]⟩, apT x.ap]] = cS s x := by
  unfold cS
  simp only [Go.Proofs.YtglhonnmppclpaaDoor.Ow.jc_cons, Go.Proofs.YtglhonnmppclpaaDoor.Ow.jc_nil, ba_assoc]
  rw [show ∀ a : ByteArray, a ++ (⟨#[]⟩ : ByteArray) = a from fun a => ByteArray.append_empty]
theorem cS_size (s : Sa) {x : Cs} (h : OkX x) : (cS s x).size ≤ 4000 := by
  have h1 := c1_ln h
  have h2 := c2_ln x
  have h3 := c3_ln (w := ⟨#[111, 119, 101, 100]⟩) (n := x.owed) (by decide) h.owed
  have h4 := c3_ln (w := ⟨#[112, 97, 105, 100]⟩) (n := x.paid) (by decide) h.paid
  have h5 := c5_ln (w := ⟨#[100, 117, 101]⟩) (b := dueT s x) (by decide) (Nat.le_trans (dueT_size s x) (by decide))
  have h6 := c5_ln (w := ⟨#[97, 112, 112, 101, 97, 108]⟩) (b := apT x.ap) (by decide) (apT_size x.ap)
  unfold cS
  simp only [ByteArray.size_append]
  omega
def cix (l : List Cs) (id : ByteArray) : Int := idx (fun x : Cs => sEq x.id id) l
theorem idx_in {α : Type} (p : α → Bool) (l : List α) : -1 ≤ idx p l ∧ idx p l < (l.length : Int) := by
  unfold idx
  cases h : l.findIdx? p with
  | none => show (-1 : Int) ≤ -1 ∧ (-1 : Int) < _; omega
  | some i =>
    rw [List.findIdx?_eq_some_iff_getElem] at h
    obtain ⟨h1, _⟩ := h
    show (-1 : Int) ≤ (i : Int) ∧ (i : Int) < _; omega
def ceS (s : Sa) (id : ByteArray) : ByteArray × Int := if decide (cix s.cases id < 0) = true then (⟨#[]⟩, 28) else (cS s (ix s.cases (cix s.cases id).toNat), 0)
theorem ceS_no {s : Sa} {id : ByteArray} (h : decide (cix s.cases id < 0) = true) : ceS s id = (⟨#[]⟩, 28) := if_pos h
theorem ceS_yes {s : Sa} {id : ByteArray} (h : decide (cix s.cases id < 0) = false) : ceS s id = (cS s (ix s.cases (cix s.cases id).toNat), 0) := if_neg (by rw [h]; decide)
theorem ceS_at {s : Sa} {id : ByteArray} {k : Nat} (h : cix s.cases id = (k : Int)) : ceS s id = (cS s (ix s.cases k), 0) := by
  rw [ceS_yes (by rw [h]; exact decide_eq_false (by omega)), h]; rfl

set_option maxHeartbeats 4000000 in
set_option maxRecDepth 100000 in
theorem st49 (n : Int) : CtrK Tryd.prog KK 49 [.fl (.int .i64 n)] (.d (.fl (.string (wd stw n)))) := by
  refine ctrK (n := 13) (rs := #[.tmp 2]) (L := [(0, .d (.fl (.int .i64 n)))]) Tryd.func49 rfl rfl rfl rfl rfl (fun w0 U0 hG => ?_)
  refine a_rseq ?_
  refine rg_put (d := 2) (v := .d (.fl (.string (⟨#[]⟩)))) rfl (og rfl (op_assign rfl rfl rfl)) ?_
  refine rg_done rfl ?_
  refine a_seq ?_
  refine a_rseq ?_
  refine rg_put (d := 3) (v := .d (.fl (.int .i64 n))) rfl (og rfl (op_move rfl rfl rfl)) ?_
  refine rg_put (d := 4) (v := .d (.fl (.bool ((decide (n < 1)))))) rfl (og rfl (op_bin rfl rfl rfl (b_lss _ _ _ _) rfl)) ?_
  refine rg_put (d := 5) (v := .d (.fl (.bool ((decide (n < 1)))))) rfl (og rfl (op_move rfl rfl rfl)) ?_
  rcases fot ((decide (n < 1))) with h1 | h1
  · skip
    have h2 := f_dec h1
    refine rg_put (d := 6) (v := .d (.fl (.int .i64 n))) rfl (oy rfl rfl rfl h1 (op_move rfl rfl rfl)) ?_
    refine rg_put (d := 7) (v := .d (.fl (.bool ((decide (8 < n)))))) rfl (oy rfl rfl rfl h1 (op_bin rfl rfl rfl (b_gtr _ _ _ _) rfl)) ?_
    refine rg_put (d := 8) (v := .d (.fl (.bool ((decide (8 < n)))))) rfl (og rfl (op_pick rfl rfl (by rw [h1]; rfl) rfl)) ?_
    refine rg_done rfl ?_
    refine a_cond rfl (fun h3 => ?_) (fun h3 => ?_)
    · skip
      have h4 := t_dec h3
      refine a_rseq ?_
      refine rg_put (d := 2) (v := .d (.fl (.string (⟨#[45]⟩)))) rfl (og rfl (op_assign rfl rfl rfl)) ?_
      refine rg_done rfl ?_
      refine a_ret ?_
      show ∃ ds, ResL _ _ _ ds ∧ RV.of ds = _
      refine ⟨[.fl (.string (⟨#[45]⟩))], (.cons (.tmp rfl (.d _)) .nil), ?_⟩
      rw [show wd stw n = _ from wd_hi h1 (by exact h3)]; rfl
    · skip
      have h5 := f_dec h3
      refine a_skip ?_
      show A _ _ _ _ _ _ _
      refine a_rseq ?_
      refine rg_put (d := 9) (v := .d (.fl (.int .i64 n))) rfl (og rfl (op_move rfl rfl rfl)) ?_
      refine rg_put (d := 10) (v := .d (.fl (.int .i64 (n - 1)))) rfl (og rfl (op_bin rfl rfl rfl (fun x y w => b_sub64 _ _ _ x y w (by omega)) rfl)) ?_
      refine rg_put (d := 11) (v := .el ((List.drop ((n - 1)).toNat GA))) rfl (og rfl (op_indexG hG.1.1 rfl Tryd.underlying148 ti9 rfl (by omega) (by omega) rfl)) ?_
      refine rg_put (d := 12) (v := .d (.fl (.string ((ix stw (n - 1).toNat))))) rfl (og rfl (op_load_el rfl Tryd.underlying9 rfl rfl (GA_drop (by omega) (by omega)) rfl)) ?_
      refine rg_put (d := 2) (v := .d (.fl (.string ((ix stw (n - 1).toNat))))) rfl (og rfl (op_assign rfl rfl rfl)) ?_
      refine rg_done rfl ?_
      refine a_ret ?_
      show ∃ ds, ResL _ _ _ ds ∧ RV.of ds = _
      refine ⟨[.fl (.string ((ix stw (n - 1).toNat)))], (.cons (.tmp rfl (.d _)) .nil), ?_⟩
      rw [show wd stw n = _ from wd_in h1 (by exact h3)]; rfl
  · skip
    have h6 := t_dec h1
    refine rg_put (d := 6) (v := .d (.fl undef)) rfl (on rfl rfl rfl h1) ?_
    refine rg_put (d := 7) (v := .d (.fl undef)) rfl (on rfl rfl rfl h1) ?_
    refine rg_put (d := 8) (v := .d (.fl (.bool true))) rfl (og rfl (op_pick rfl rfl (by rw [h1]; rfl) rfl)) ?_
    refine rg_done rfl ?_
    refine a_condK rfl rfl ?_
    refine a_rseq ?_
    refine rg_put (d := 2) (v := .d (.fl (.string (⟨#[45]⟩)))) rfl (og rfl (op_assign rfl rfl rfl)) ?_
    refine rg_done rfl ?_
    refine a_ret ?_
    show ∃ ds, ResL _ _ _ ds ∧ RV.of ds = _
    refine ⟨[.fl (.string (⟨#[45]⟩))], (.cons (.tmp rfl (.d _)) .nil), ?_⟩
    rw [show wd stw n = _ from wd_lo h1]; rfl
set_option maxHeartbeats 4000000 in
set_option maxRecDepth 100000 in
theorem wd51 (l : List ByteArray) (n : Int) (hl : l.length ≤ 100) : Ctr Tryd.prog 51 [.sl 1 (List.map rS l), .fl (.int .i64 n)] (.d (.fl (.string (wd l n)))) := by
  refine ctr (n := 18) (rs := #[.tmp 4]) (L := [(0, .d (.sl 1 (List.map rS l))), (1, .d (.fl (.int .i64 n)))]) Tryd.func51 rfl rfl rfl rfl rfl (fun w0 U0 => ?_)
  refine a_rseq ?_
  refine rg_put (d := 4) (v := .d (.fl (.string (⟨#[]⟩)))) rfl (og rfl (op_assign rfl rfl rfl)) ?_
  refine rg_done rfl ?_
  refine a_seq ?_
  refine a_rseq ?_
  refine rg_put (d := 5) (v := .d (.fl (.int .i64 n))) rfl (og rfl (op_move rfl rfl rfl)) ?_
  refine rg_put (d := 6) (v := .d (.fl (.bool ((decide (n < 1)))))) rfl (og rfl (op_bin rfl rfl rfl (b_lss _ _ _ _) rfl)) ?_
  refine rg_put (d := 7) (v := .d (.fl (.bool ((decide (n < 1)))))) rfl (og rfl (op_move rfl rfl rfl)) ?_
  rcases fot ((decide (n < 1))) with h1 | h1
  · skip
    have h2 := f_dec h1
    refine rg_put (d := 8) (v := .d (.fl (.int .i64 n))) rfl (oy rfl rfl rfl h1 (op_move rfl rfl rfl)) ?_
    refine rg_put (d := 9) (v := .d (.sl 1 (List.map rS l))) rfl (oy rfl rfl rfl h1 (op_move rfl rfl rfl)) ?_
    refine rg_put (d := 10) (v := .d (.fl (.int .i64 (l.length : Int)))) rfl (oy rfl rfl rfl h1 (s_len rfl Tryd.underlying98 rfl rfl)) ?_
    refine rg_put (d := 11) (v := .d (.fl (.bool ((decide ((l.length : Int) < n)))))) rfl (oy rfl rfl rfl h1 (op_bin rfl rfl rfl (b_gtr _ _ _ _) rfl)) ?_
    refine rg_put (d := 12) (v := .d (.fl (.bool ((decide ((l.length : Int) < n)))))) rfl (og rfl (op_pick rfl rfl (by rw [h1]; rfl) rfl)) ?_
    refine rg_done rfl ?_
    refine a_cond rfl (fun h3 => ?_) (fun h3 => ?_)
    · skip
      have h4 := t_dec h3
      refine a_rseq ?_
      refine rg_put (d := 4) (v := .d (.fl (.string (⟨#[45]⟩)))) rfl (og rfl (op_assign rfl rfl rfl)) ?_
      refine rg_done rfl ?_
      refine a_ret ?_
      show ∃ ds, ResL _ _ _ ds ∧ RV.of ds = _
      refine ⟨[.fl (.string (⟨#[45]⟩))], (.cons (.tmp rfl (.d _)) .nil), ?_⟩
      rw [show wd l n = _ from wd_hi h1 (by exact h3)]; rfl
    · skip
      have h5 := f_dec h3
      refine a_skip ?_
      show A _ _ _ _ _ _ _
      refine a_rseq ?_
      refine rg_put (d := 13) (v := .d (.sl 1 (List.map rS l))) rfl (og rfl (op_move rfl rfl rfl)) ?_
      refine rg_put (d := 14) (v := .d (.fl (.int .i64 n))) rfl (og rfl (op_move rfl rfl rfl)) ?_
      refine rg_put (d := 15) (v := .d (.fl (.int .i64 (n - 1)))) rfl (og rfl (op_bin rfl rfl rfl (fun x y w => b_sub64 _ _ _ x y w (by omega)) rfl)) ?_
      refine rg_put (d := 16) (v := .el ((rS ((ix l ((n - 1)).toNat))))) rfl (og rfl (s_index rfl Tryd.underlying98 ti9 rfl rfl (by omega) (row_atI (by omega) (by omega)) rfl)) ?_
      refine rg_put (d := 17) (v := .d (.fl (.string ((ix l ((n - 1)).toNat))))) rfl (og rfl (op_load_el rfl Tryd.underlying9 rfl rfl rfl rfl)) ?_
      refine rg_put (d := 4) (v := .d (.fl (.string ((ix l ((n - 1)).toNat))))) rfl (og rfl (op_assign rfl rfl rfl)) ?_
      refine rg_done rfl ?_
      refine a_ret ?_
      show ∃ ds, ResL _ _ _ ds ∧ RV.of ds = _
      refine ⟨[.fl (.string ((ix l ((n - 1)).toNat)))], (.cons (.tmp rfl (.d _)) .nil), ?_⟩
      rw [show wd l n = _ from wd_in h1 (by exact h3)]; rfl
  · skip
    have h6 := t_dec h1
    refine rg_put (d := 8) (v := .d (.fl undef)) rfl (on rfl rfl rfl h1) ?_
    refine rg_put (d := 9) (v := .d (.fl undef)) rfl (on rfl rfl rfl h1) ?_
    refine rg_put (d := 10) (v := .d (.fl undef)) rfl (on rfl rfl rfl h1) ?_
    refine rg_put (d := 11) (v := .d (.fl undef)) rfl (on rfl rfl rfl h1) ?_
    refine rg_put (d := 12) (v := .d (.fl (.bool true))) rfl (og rfl (op_pick rfl rfl (by rw [h1]; rfl) rfl)) ?_
    refine rg_done rfl ?_
    refine a_condK rfl rfl ?_
    refine a_rseq ?_
    refine rg_put (d := 4) (v := .d (.fl (.string (⟨#[45]⟩)))) rfl (og rfl (op_assign rfl rfl rfl)) ?_
    refine rg_done rfl ?_
    refine a_ret ?_
    show ∃ ds, ResL _ _ _ ds ∧ RV.of ds = _
    refine ⟨[.fl (.string (⟨#[45]⟩))], (.cons (.tmp rfl (.d _)) .nil), ?_⟩
    rw [show wd l n = _ from wd_lo h1]; rfl
set_option maxHeartbeats 4000000 in
set_option maxRecDepth 100000 in
theorem ap50 (a : Ap) : CtrK Tryd.prog KK 50 [.ag (eAp a)] (.d (.fl (.string (apT a)))) := by
  refine ctrK (n := 21) (rs := #[.tmp 2]) (L := [(0, .d (.ag (eAp a)))]) Tryd.func50 rfl rfl rfl rfl rfl (fun w0 U0 hG => ?_)
  refine a_rseq ?_
  refine rg_nam (d := 1) (v := .pt 101 0) (m := 101) (nw := [(101, .bx 100 (eAp a))]) rfl (og rfl (of_eff (op_box 101 rfl rfl rfl rfl) rfl)) rfl ?_
  refine rg_put (d := 2) (v := .d (.fl (.string (⟨#[]⟩)))) rfl (og rfl (op_assign rfl rfl rfl)) ?_
  refine rg_done rfl ?_
  refine a_seq ?_
  refine a_rseq ?_
  refine rg_put (d := 3) (v := .pt 101 0) rfl (og rfl (of_eff (s_field_pt rfl Tryd.underlying100 rfl ti3 rfl rfl rfl) rfl)) ?_
  refine rg_put (d := 4) (v := .d (.fl (.int .i64 a.state))) rfl (og rfl (op_load_pt rfl Tryd.underlying3 rfl rfl rfl rfl rfl)) ?_
  refine rg_put (d := 5) (v := .d (.fl (.bool ((decide (a.state < 1)))))) rfl (og rfl (op_bin rfl rfl rfl (b_lss _ _ _ _) rfl)) ?_
  refine rg_put (d := 6) (v := .d (.fl (.bool ((decide (a.state < 1)))))) rfl (og rfl (op_move rfl rfl rfl)) ?_
  rcases fot ((decide (a.state < 1))) with h1 | h1
  · skip
    have h2 := f_dec h1
    refine rg_put (d := 7) (v := .pt 101 0) rfl (oy rfl rfl rfl h1 (of_eff (s_field_pt rfl Tryd.underlying100 rfl ti3 rfl rfl rfl) rfl)) ?_
    refine rg_put (d := 8) (v := .d (.fl (.int .i64 a.state))) rfl (oy rfl rfl rfl h1 (op_load_pt rfl Tryd.underlying3 rfl rfl rfl rfl rfl)) ?_
    refine rg_put (d := 9) (v := .d (.fl (.bool ((decide (3 < a.state)))))) rfl (oy rfl rfl rfl h1 (op_bin rfl rfl rfl (b_gtr _ _ _ _) rfl)) ?_
    refine rg_put (d := 10) (v := .d (.fl (.bool ((decide (3 < a.state)))))) rfl (og rfl (op_pick rfl rfl (by rw [h1]; rfl) rfl)) ?_
    refine rg_done rfl ?_
    refine a_cond rfl (fun h3 => ?_) (fun h3 => ?_)
    · skip
      have h4 := t_dec h3
      refine a_rseq ?_
      refine rg_put (d := 2) (v := .d (.fl (.string (⟨#[45]⟩)))) rfl (og rfl (op_assign rfl rfl rfl)) ?_
      refine rg_done rfl ?_
      refine a_ret ?_
      show ∃ ds, ResL _ _ _ ds ∧ RV.of ds = _
      refine ⟨[.fl (.string (⟨#[45]⟩))], (.cons (.tmp rfl (.d _)) .nil), ?_⟩
      rw [apT_dash (dash_hi h1 h3)]; rfl
    · skip
      have h5 := f_dec h3
      refine a_skip ?_
      show A _ _ _ _ _ _ _
      refine a_dseq (by kernel_rfl) ?_
      refine dr_put (d := 11) (v := .pt 101 0) rfl (og rfl (of_eff (s_field_pt rfl Tryd.underlying100 rfl ti3 rfl rfl rfl) rfl)) ?_
      refine dr_put (d := 12) (v := .d (.fl (.int .i64 a.state))) rfl (og rfl (op_load_pt rfl Tryd.underlying3 rfl rfl rfl rfl rfl)) ?_
      refine dr_put (d := 13) (v := .d (.fl (.int .i64 (a.state - 1)))) rfl (og rfl (op_bin rfl rfl rfl (fun x y w => b_sub64 _ _ _ x y w (by omega)) rfl)) ?_
      refine dr_put (d := 14) (v := .el ((List.drop ((a.state - 1)).toNat GB))) rfl (og rfl (op_indexG hG.1.2 rfl Tryd.underlying149 ti9 rfl (by omega) (by omega) rfl)) ?_
      refine dr_put (d := 15) (v := .d (.fl (.string ((ix apw (a.state - 1).toNat))))) rfl (og rfl (op_load_el rfl Tryd.underlying9 rfl rfl (GB_drop (by omega) (by omega)) rfl)) ?_
      refine dr_put (d := 16) (v := .pt 101 2) rfl (og rfl (of_eff (s_field_pt rfl Tryd.underlying100 rfl ti3 rfl rfl rfl) rfl)) ?_
      refine dr_put (d := 17) (v := .d (.fl (.int .i64 a.day))) rfl (og rfl (op_load_pt rfl Tryd.underlying3 rfl rfl rfl rfl rfl)) ?_
      refine dr_put (d := 18) (v := .d (.fl (.string (dtS a.day)))) rfl (og rfl (op_callK kkst hG rfl Tryd.func33 nm33 rfl (.cons rfl (.d _) .nil) (date36 a.day) rfl)) ?_
      refine dr_put (d := 19) (v := .d (.sl 1 (List.map rS [(ix apw (a.state - 1).toNat), (dtS a.day)]))) rfl (og rfl (of_eff (op_slices rfl Tryd.underlying98 ti9 rfl rfl rfl (by kernel_rfl) (xs := [.fl (.string ((ix apw (a.state - 1).toNat))), .fl (.string (dtS a.day))]) rfl rfl (.cons rfl rfl (.d _) rfl rfl rfl (.cons rfl rfl (.d _) rfl rfl rfl .nil)) rfl) rfl)) ?_
      refine dr_put (d := 20) (v := .d (.fl (.string ((jn [(ix apw (a.state - 1).toNat), (dtS a.day)]))))) rfl (og rfl (op_call rfl Tryd.func59 nm59 rfl (.cons rfl (.d _) .nil) (jn63 [(ix apw (a.state - 1).toNat), (dtS a.day)] (by have := ap_jn2 a; rw [wd_in h1 (by exact h3)] at this; omega)) rfl)) ?_
      refine dr_put (d := 2) (v := .d (.fl (.string ((jn [(ix apw (a.state - 1).toNat), (dtS a.day)]))))) rfl (og rfl (op_assign rfl rfl rfl)) ?_
      refine dr_done rfl (by kernel_rfl) (by kernel_rfl) ?_
      refine a_ret ?_
      show ∃ ds, ResL _ _ _ ds ∧ RV.of ds = _
      refine ⟨[.fl (.string ((jn [(ix apw (a.state - 1).toNat), (dtS a.day)])))], (.cons (.tmp rfl (.d _)) .nil), ?_⟩
      rw [apT_in (dash_in h1 h3), wd_in h1 (by exact h3)]; rfl
  · skip
    have h6 := t_dec h1
    refine rg_put (d := 7) (v := .d (.fl undef)) rfl (on rfl rfl rfl h1) ?_
    refine rg_put (d := 8) (v := .d (.fl undef)) rfl (on rfl rfl rfl h1) ?_
    refine rg_put (d := 9) (v := .d (.fl undef)) rfl (on rfl rfl rfl h1) ?_
    refine rg_put (d := 10) (v := .d (.fl (.bool true))) rfl (og rfl (op_pick rfl rfl (by rw [h1]; rfl) rfl)) ?_
    refine rg_done rfl ?_
    refine a_condK rfl rfl ?_
    refine a_rseq ?_
    refine rg_put (d := 2) (v := .d (.fl (.string (⟨#[45]⟩)))) rfl (og rfl (op_assign rfl rfl rfl)) ?_
    refine rg_done rfl ?_
    refine a_ret ?_
    show ∃ ds, ResL _ _ _ ds ∧ RV.of ds = _
    refine ⟨[.fl (.string (⟨#[45]⟩))], (.cons (.tmp rfl (.d _)) .nil), ?_⟩
    rw [apT_dash (dash_lo h1)]; rfl
end Go.Proofs.YtglhonnmppclpaaDoor.Wk
