/- Caps: the check, what counts, periods, both sides. Condition: the table of months reads as it is laid. -/
import Derived.Test.YteeofplcnnhcnaaDoorNw
import Derived.Test.YteeofplcnnhcnaaDoorKk
set_option linter.unusedSimpArgs false
set_option linter.unusedVariables false
namespace Go.Proofs.YteeofplcnnhcnaaDoor.Wk
open Go Go.RowKit Go.Proofs.YteeofplcnnhcnaaDoor.Av
theorem ne_self_b (a : Int) : (a != a) = false := by simp
theorem sEq_eq {a b : ByteArray} (h : sEq a b = true) : a = b := of_decide_eq_true h
theorem sEq_of {a b : ByteArray} (h : a = b) : sEq a b = true := decide_eq_true h
theorem nb {b : Bool} (h : ¬ b = true) : b = false := by cases b <;> simp at h ⊢
theorem nnb {b : Bool} (h : ¬ (!b) = true) : b = true := by cases b <;> simp at h ⊢

theorem ix_eq {α : Type} [Inhabited α] {l : List α} {i : Nat} (h : i < l.length) : l[i] = ix l i := by
  have := ix_get h
  rw [List.getElem?_eq_getElem h] at this
  injection this
theorem ix_mem {α : Type} [Inhabited α] {l : List α} {k : Nat} (h : k < l.length) : ix l k ∈ l := by rw [← ix_eq h]; exact List.getElem_mem h
theorem mem_ix {α : Type} [Inhabited α] {l : List α} {x : α} (h : x ∈ l) : ∃ k, k < l.length ∧ ix l k = x := by
  obtain ⟨j, hj, he⟩ := List.mem_iff_getElem.1 h
  exact ⟨j, hj, by rw [← ix_eq hj]; exact he⟩
theorem fnd_no {α : Type} [Inhabited α] {p : α → Bool} {l : List α} (h : ∀ q, q < l.length → p (ix l q) = false) : l.find? p = none := by
  rw [List.find?_eq_none]
  intro x hx
  obtain ⟨k, hk, he⟩ := mem_ix hx
  rw [← he, h k hk]; simp
theorem fnd_at {α : Type} [Inhabited α] {p : α → Bool} {l : List α} {k : Nat} (hk : k < l.length) (h : ∀ q, q < k → p (ix l q) = false) (hp : p (ix l k) = true) : l.find? p = some (ix l k) := by
  rw [List.find?_eq_some_iff_getElem]
  refine ⟨hp, k, hk, ix_eq hk, fun j hj => ?_⟩
  rw [ix_eq (by omega), h j hj]; rfl
theorem any_at {α : Type} [Inhabited α] {p : α → Bool} {l : List α} {k : Nat} (hk : k < l.length) (hp : p (ix l k) = true) : l.any p = true := by
  rw [List.any_eq_true]; exact ⟨_, ix_mem hk, hp⟩
theorem any_no {α : Type} [Inhabited α] {p : α → Bool} {l : List α} (h : ∀ q, q < l.length → p (ix l q) = false) : l.any p = false := by
  rw [List.any_eq_false]
  intro x hx
  obtain ⟨k, hk, he⟩ := mem_ix hx
  rw [← he, h k hk]; simp
theorem all_no {α : Type} [Inhabited α] {p : α → Bool} {l : List α} {k : Nat} (hk : k < l.length) (h : p (ix l k) = false) : l.all p = false := by
  rw [List.all_eq_false]; exact ⟨_, ix_mem hk, by rw [h]; simp⟩
theorem all_yes {α : Type} [Inhabited α] {p : α → Bool} {l : List α} (h : ∀ q, q < l.length → p (ix l q) = true) : l.all p = true := by
  rw [List.all_eq_true]
  intro x hx
  obtain ⟨k, hk, he⟩ := mem_ix hx
  rw [← he]; exact h k hk
theorem ctrK_flat3 {P : Program} {K : World → (Nat → Nat) → Prop} {f : FuncId} (xs : List Value) {a b c : Value} (h : ∀ w U, K w U → Calls P f xs.toArray w fun e w' => e = .returned (.tuple #[a, b, c]) ∧ w = w') : CtrK P K f (xs.map DV.fl) (.tu [.fl a, .fl b, .fl c]) := by
  intro vals U w hK hR
  rw [rds_flat hR]
  refine Calls.mono (h w U hK) ?_
  rintro e w' ⟨rfl, rfl⟩
  exact ⟨_, U, rfl, Below.refl _ _, fun _ _ => rfl, _, rfl, Rds.cons (.fl _) (Rds.cons (.fl _) (Rds.cons (.fl _) Rds.nil))⟩
theorem ctr_flat3 {P : Program} {f : FuncId} (xs : List Value) {a b c : Value} (h : ∀ w, Calls P f xs.toArray w fun e w' => e = .returned (.tuple #[a, b, c]) ∧ w = w') : Ctr P f (xs.map DV.fl) (.tu [.fl a, .fl b, .fl c]) := by
  intro vals U w hR
  rw [rds_flat hR]
  refine Calls.mono (h w) ?_
  rintro e w' ⟨rfl, rfl⟩
  exact ⟨_, U, rfl, Below.refl _ _, fun _ _ => rfl, _, rfl, Rds.cons (.fl _) (Rds.cons (.fl _) (Rds.cons (.fl _) Rds.nil))⟩
theorem same_b {P : Program} {f : FuncId} {xs : Array Value} {w : World} {v : Value} (h : Calls P f xs w fun e w' => e = .returned v ∧ w = w') : Calls P f xs w fun e w' => e = .returned v ∧ Below w.heap.size w w' := Calls.mono h (by rintro e w' ⟨rfl, rfl⟩; exact ⟨rfl, Below.refl _ _⟩)
theorem same_c {P : Program} {f : FuncId} {xs : Array Value} {w : World} {v : Value} (h : Calls P f xs w fun e w' => e = .returned v ∧ w' = w) : Calls P f xs w fun e w' => e = .returned v ∧ Below w.heap.size w w' := Calls.mono h (by rintro e w' ⟨rfl, rfl⟩; exact ⟨rfl, Below.refl _ _⟩)
theorem eq_self_bb (a : Bool) : (a == a) = true := by cases a <;> rfl
def fitB (n : Int) : Bool := decide (-1125899906842624 ≤ n) && decide (n ≤ 1125899906842624)
def amo (n : Int) : Bool := decide (0 ≤ n) && decide (n ≤ 1125899906842624)
theorem amo_t {n : Int} (h : amo n = true) : 0 ≤ n ∧ n ≤ 1125899906842624 := by simpa [amo] using h
theorem nam15 (s : ByteArray) : Ctr Tryd.prog 15 [.fl (.string s)] (.d (.fl (.bool (Nm.nmB s)))) := ctr_flat [.string s] (fun w => Nw.name14 s w)
theorem nam17 (s : ByteArray) : Ctr Tryd.prog 17 [.fl (.string s)] (.d (.fl (.bool (Nm.nmB s)))) := ctr_flat [.string s] (fun w => Nw.name15 s w)
def dayN (t : Int) : Int := Cm.dayS t
def dy (d : Int) : Int := (Cm.dateS d).1
def dm (d : Int) : Int := (Cm.dateS d).2.1
def dd (d : Int) : Int := (Cm.dateS d).2.2
theorem day19 (t : Int) : Ctr Tryd.prog 19 [.fl (.int .i64 t)] (.d (.fl (.int .i64 (dayN t)))) := ctr_flat [.int .i64 t] (fun w => same_b (Cw.day_any t w))
theorem day21 (t : Int) : Ctr Tryd.prog 21 [.fl (.int .i64 t)] (.d (.fl (.int .i64 (dayN t)))) := ctr_flat [.int .i64 t] (fun w => same_b (Cw.Day_any t w))
theorem dt27 (d : Int) : CtrK Tryd.prog KK 27 [.fl (.int .i64 d)] (.tu [.fl (.int .i64 (dy d)), .fl (.int .i64 (dm d)), .fl (.int .i64 (dd d))]) := ctrK_flat3 [.int .i64 d] (fun w U hK => Cw.date_any d w hK)
theorem dt22 (d : Int) : Ctr Tryd.prog 22 [.fl (.int .i64 d)] (.tu [.fl (.int .i64 (dy d)), .fl (.int .i64 (dm d)), .fl (.int .i64 (dd d))]) := ctr_flat3 [.int .i64 d] (fun w => Cw.Date_any d w)
theorem dat_any (d : Int) : dy d = 0 ∨ ((2001 ≤ dy d ∧ dy d ≤ 4178) ∧ (1 ≤ dm d ∧ dm d ≤ 12)) := by
  cases h : Cm.isD d with
  | false => left; unfold dy Cm.dateS; rw [if_neg (by rw [h]; decide)]
  | true =>
    right
    obtain ⟨y, m, e, h1, h2, h3, h4, h5, h6, h7⟩ := Cm.date_back (d := d) h
    unfold dy dm
    rw [e]
    exact ⟨⟨h1, h2⟩, by show 1 ≤ (m : Int) ∧ (m : Int) ≤ 12; omega⟩
def mon (t : Int) : Int := bif (dy (dayN t) == 0) then -1 else (dy (dayN t) - 2001) * 12 + dm (dayN t) - 1
def per (c : Ca) (t : Int) : Int := bif (c.days == 1) then dayN t else bif (c.days == 0) then mon t else -1
theorem mon_ge (t : Int) : -1 ≤ mon t := by
  have h := dat_any (dayN t)
  unfold mon
  cases h0 : (dy (dayN t) == 0) with
  | true => simp
  | false =>
    have : dy (dayN t) ≠ 0 := by simpa using h0
    rw [cond_false]; omega
theorem day_ge (t : Int) : -1 ≤ dayN t := by
  unfold dayN Cm.dayS
  split <;> first | omega | (rename_i h; have := (Cm.isT_iff t).1 h; omega)
theorem per_ge (c : Ca) (t : Int) : -1 ≤ per c t := by
  have h1 := mon_ge t
  have h2 := day_ge t
  unfold per
  cases (c.days == 1) <;> cases (c.days == 0) <;> simp <;> omega
def mt (c : Ca) (x : Cg) : Bool := sEq c.sys ⟨#[]⟩ || sEq c.sys x.sys
noncomputable def ck (c : Ca) : Int := bif !(Nm.nmB c.name) then 6 else bif !(sEq c.sys ⟨#[]⟩) && !(Nm.nmB c.sys) then 6 else bif (c.days != 0) && (c.days != 1) then 1 else bif !(amo c.cents) then 13 else 0
theorem ck_amo {c : Ca} (h : ck c = 0) : 0 ≤ c.cents ∧ c.cents ≤ 1125899906842624 := by
  refine amo_t ?_
  cases hb : amo c.cents with
  | true => rfl
  | false =>
    unfold ck at h
    rw [hb] at h
    revert h
    cases Nm.nmB c.name <;> cases (!(sEq c.sys ⟨#[]⟩) && !(Nm.nmB c.sys)) <;> cases ((c.days != 0) && (c.days != 1)) <;> simp
/-- what counts, of the first k charges -/
def sl (c : Ca) (l : List Cg) (p : Int) : Nat → Int
  | 0 => 0
  | k + 1 => bif mt c (ix l k) && (per c (ix l k).time == p) then sl c l p k + (ix l k).cents else sl c l p k
def fitL (l : List Cg) : Bool := decide ((l.length : Int) ≤ 60) && !(l.any fun x => !(amo x.cents))
theorem fitL_no {l : List Cg} {k : Nat} (hk : k < l.length) (h : amo (ix l k).cents = false) : fitL l = false := by unfold fitL; rw [any_at hk (by rw [h]; rfl)]; simp
theorem fitL_lim {l : List Cg} (h : decide (60 < (l.length : Int)) = true) : fitL l = false := by
  unfold fitL
  have := of_decide_eq_true h
  rw [decide_eq_false (by omega)]; rfl
theorem fitL_yes {l : List Cg} (h : decide (60 < (l.length : Int)) = false) (hq : ∀ q, q < l.length → amo (ix l q).cents = true) : fitL l = true := by
  unfold fitL
  have := of_decide_eq_false h
  rw [decide_eq_true (by omega), any_no (fun q hx => by rw [hq q hx]; rfl)]; rfl
theorem fitL_t {l : List Cg} (h : fitL l = true) : l.length ≤ 60 ∧ ∀ q, q < l.length → 0 ≤ (ix l q).cents ∧ (ix l q).cents ≤ 1125899906842624 := by
  unfold fitL at h
  simp only [Bool.and_eq_true, decide_eq_true_eq, Bool.not_eq_true'] at h
  refine ⟨by omega, fun q hq => amo_t ?_⟩
  have := List.any_eq_false.1 h.2 (ix l q) (ix_mem hq)
  simpa using this
theorem sl_in {c : Ca} {l : List Cg} {p : Int} (h : ∀ q, q < l.length → 0 ≤ (ix l q).cents ∧ (ix l q).cents ≤ 1125899906842624) : ∀ k, k ≤ l.length → 0 ≤ sl c l p k ∧ sl c l p k ≤ (k : Int) * 1125899906842624
  | 0, _ => by simp [sl]
  | k + 1, hk => by
    have h1 := sl_in (c := c) (p := p) h k (by omega)
    have h2 := h k (by omega)
    simp only [sl]
    cases (mt c (ix l k) && (per c (ix l k).time == p)) <;> simp only [cond_true, cond_false] <;> omega
theorem sl_yes {c : Ca} {l : List Cg} {p : Int} {k : Nat} (h1 : mt c (ix l k) = true) (h2 : (per c (ix l k).time == p) = true) : sl c l p (k + 1) = sl c l p k + (ix l k).cents := by simp only [sl]; rw [h1, h2]; rfl
theorem sl_no {c : Ca} {l : List Cg} {p : Int} {k : Nat} (h : mt c (ix l k) = false ∨ (per c (ix l k).time == p) = false) : sl c l p (k + 1) = sl c l p k := by
  simp only [sl]
  rcases h with h | h <;> rw [h]
  · rfl
  · rw [Bool.and_false]; rfl
def lft (c : Ca) (l : List Cg) (t : Int) : Int := bif (per c t == -1) then 0 else max (c.cents - sl c l (per c t) l.length) 0

set_option maxHeartbeats 4000000 in
set_option maxRecDepth 100000 in
theorem fit16 (n : Int) : Ctr Tryd.prog 16 [.fl (.int .i64 n)] (.d (.fl (.bool (fitB n)))) := by
  refine ctr (n := 9) (rs := #[.tmp 2]) (L := [(0, .d (.fl (.int .i64 n)))]) Tryd.func16 rfl rfl rfl rfl rfl (fun w0 U0 => ?_)
  refine a_rseq ?_
  refine rg_put (d := 2) (v := .d (.fl (.bool false))) rfl (og rfl (op_assign rfl rfl rfl)) ?_
  refine rg_done rfl ?_
  refine a_rseq ?_
  refine rg_put (d := 3) (v := .d (.fl (.int .i64 n))) rfl (og rfl (op_move rfl rfl rfl)) ?_
  refine rg_put (d := 4) (v := .d (.fl (.bool ((decide ((-1125899906842624) ≤ n)))))) rfl (og rfl (op_bin rfl rfl rfl (b_leq _ _ _ _) rfl)) ?_
  refine rg_put (d := 5) (v := .d (.fl (.bool ((decide ((-1125899906842624) ≤ n)))))) rfl (og rfl (op_move rfl rfl rfl)) ?_
  rcases fot ((decide ((-1125899906842624) ≤ n))) with h1 | h1
  · skip
    have h2 := f_dec h1
    refine rg_put (d := 6) (v := .d (.fl undef)) rfl (on rfl rfl rfl h1) ?_
    refine rg_put (d := 7) (v := .d (.fl undef)) rfl (on rfl rfl rfl h1) ?_
    refine rg_put (d := 8) (v := .d (.fl (.bool false))) rfl (og rfl (op_pick rfl rfl (by rw [h1]; rfl) rfl)) ?_
    refine rg_put (d := 2) (v := .d (.fl (.bool false))) rfl (og rfl (op_assign rfl rfl rfl)) ?_
    refine rg_done rfl ?_
    refine a_ret ?_
    show ∃ ds, ResL _ _ _ ds ∧ RV.of ds = _
    refine ⟨[.fl (.bool false)], (.cons (.tmp rfl (.d _)) .nil), ?_⟩
    first
      | (have hu : fitB n = false := by
          unfold fitB; simp only [h1, Bool.true_or, Bool.false_or, Bool.or_true, Bool.or_false, Bool.not_true, Bool.not_false, cond_true, cond_false, Bool.true_and, Bool.false_and, Bool.and_true, Bool.and_false] <;> rfl
         rw [hu]; rfl)
      | (exfalso; omega)
  · skip
    have h3 := t_dec h1
    refine rg_put (d := 6) (v := .d (.fl (.int .i64 n))) rfl (oy rfl rfl rfl h1 (op_move rfl rfl rfl)) ?_
    refine rg_put (d := 7) (v := .d (.fl (.bool ((decide (n ≤ 1125899906842624)))))) rfl (oy rfl rfl rfl h1 (op_bin rfl rfl rfl (b_leq _ _ _ _) rfl)) ?_
    refine rg_put (d := 8) (v := .d (.fl (.bool ((decide (n ≤ 1125899906842624)))))) rfl (og rfl (op_pick rfl rfl (by rw [h1]; rfl) rfl)) ?_
    refine rg_put (d := 2) (v := .d (.fl (.bool ((decide (n ≤ 1125899906842624)))))) rfl (og rfl (op_assign rfl rfl rfl)) ?_
    refine rg_done rfl ?_
    refine a_ret ?_
    show ∃ ds, ResL _ _ _ ds ∧ RV.of ds = _
    refine ⟨[.fl (.bool ((decide (n ≤ 1125899906842624))))], (.cons (.tmp rfl (.d _)) .nil), ?_⟩
    first
      | (have hu : fitB n = (decide (n ≤ 1125899906842624)) := by
          unfold fitB; simp only [h1, Bool.true_or, Bool.false_or, Bool.or_true, Bool.or_false, Bool.not_true, Bool.not_false, cond_true, cond_false, Bool.true_and, Bool.false_and, Bool.and_true, Bool.and_false] <;> rfl
         rw [hu]; rfl)
      | (exfalso; omega)
set_option maxHeartbeats 4000000 in
set_option maxRecDepth 100000 in
theorem amo18 (n : Int) : Ctr Tryd.prog 18 [.fl (.int .i64 n)] (.d (.fl (.bool (amo n)))) := by
  refine ctr (n := 9) (rs := #[.tmp 2]) (L := [(0, .d (.fl (.int .i64 n)))]) Tryd.func18 rfl rfl rfl rfl rfl (fun w0 U0 => ?_)
  refine a_rseq ?_
  refine rg_put (d := 2) (v := .d (.fl (.bool false))) rfl (og rfl (op_assign rfl rfl rfl)) ?_
  refine rg_done rfl ?_
  refine a_rseq ?_
  refine rg_put (d := 3) (v := .d (.fl (.int .i64 n))) rfl (og rfl (op_move rfl rfl rfl)) ?_
  refine rg_put (d := 4) (v := .d (.fl (.bool ((decide (0 ≤ n)))))) rfl (og rfl (op_bin rfl rfl rfl (b_geq _ _ _ _) rfl)) ?_
  refine rg_put (d := 5) (v := .d (.fl (.bool ((decide (0 ≤ n)))))) rfl (og rfl (op_move rfl rfl rfl)) ?_
  rcases fot ((decide (0 ≤ n))) with h1 | h1
  · skip
    have h2 := f_dec h1
    refine rg_put (d := 6) (v := .d (.fl undef)) rfl (on rfl rfl rfl h1) ?_
    refine rg_put (d := 7) (v := .d (.fl undef)) rfl (on rfl rfl rfl h1) ?_
    refine rg_put (d := 8) (v := .d (.fl (.bool false))) rfl (og rfl (op_pick rfl rfl (by rw [h1]; rfl) rfl)) ?_
    refine rg_put (d := 2) (v := .d (.fl (.bool false))) rfl (og rfl (op_assign rfl rfl rfl)) ?_
    refine rg_done rfl ?_
    refine a_ret ?_
    show ∃ ds, ResL _ _ _ ds ∧ RV.of ds = _
    refine ⟨[.fl (.bool false)], (.cons (.tmp rfl (.d _)) .nil), ?_⟩
    first
      | (have hu : amo n = false := by
          unfold amo; simp only [h1, Bool.true_or, Bool.false_or, Bool.or_true, Bool.or_false, Bool.not_true, Bool.not_false, cond_true, cond_false, Bool.true_and, Bool.false_and, Bool.and_true, Bool.and_false] <;> rfl
         rw [hu]; rfl)
      | (exfalso; omega)
  · skip
    have h3 := t_dec h1
    refine rg_put (d := 6) (v := .d (.fl (.int .i64 n))) rfl (oy rfl rfl rfl h1 (op_move rfl rfl rfl)) ?_
    refine rg_put (d := 7) (v := .d (.fl (.bool ((decide (n ≤ 1125899906842624)))))) rfl (oy rfl rfl rfl h1 (op_bin rfl rfl rfl (b_leq _ _ _ _) rfl)) ?_
    refine rg_put (d := 8) (v := .d (.fl (.bool ((decide (n ≤ 1125899906842624)))))) rfl (og rfl (op_pick rfl rfl (by rw [h1]; rfl) rfl)) ?_
    refine rg_put (d := 2) (v := .d (.fl (.bool ((decide (n ≤ 1125899906842624)))))) rfl (og rfl (op_assign rfl rfl rfl)) ?_
    refine rg_done rfl ?_
    refine a_ret ?_
    show ∃ ds, ResL _ _ _ ds ∧ RV.of ds = _
    refine ⟨[.fl (.bool ((decide (n ≤ 1125899906842624))))], (.cons (.tmp rfl (.d _)) .nil), ?_⟩
    first
      | (have hu : amo n = (decide (n ≤ 1125899906842624)) := by
          unfold amo; simp only [h1, Bool.true_or, Bool.false_or, Bool.or_true, Bool.or_false, Bool.not_true, Bool.not_false, cond_true, cond_false, Bool.true_and, Bool.false_and, Bool.and_true, Bool.and_false] <;> rfl
         rw [hu]; rfl)
      | (exfalso; omega)
set_option maxHeartbeats 4000000 in
set_option maxRecDepth 100000 in
theorem mt7 (c : Ca) (x : Cg) : Ctr Tryd.prog 7 [.ag (eCa c), .ag (eCg x)] (.d (.fl (.bool (mt c x)))) := by
  refine ctr (n := 15) (rs := #[.tmp 4]) (L := [(0, .d (.ag (eCa c))), (1, .d (.ag (eCg x)))]) Tryd.func7 rfl rfl rfl rfl rfl (fun w0 U0 => ?_)
  refine a_rseq ?_
  refine rg_nam (d := 2) (v := .pt 101 0) (m := 101) (nw := [(101, .bx 23 (eCa c))]) rfl (og rfl (of_eff (op_box 101 rfl rfl rfl rfl) rfl)) rfl ?_
  refine rg_nam (d := 3) (v := .pt 102 0) (m := 102) (nw := [(102, .bx 26 (eCg x))]) rfl (og rfl (of_eff (op_box 102 rfl rfl rfl rfl) rfl)) rfl ?_
  refine rg_put (d := 4) (v := .d (.fl (.bool false))) rfl (og rfl (op_assign rfl rfl rfl)) ?_
  refine rg_done rfl ?_
  refine a_rseq ?_
  refine rg_put (d := 5) (v := .pt 101 1) rfl (og rfl (of_eff (s_field_pt rfl Tryd.underlying23 rfl ti9 rfl rfl rfl) rfl)) ?_
  refine rg_put (d := 6) (v := .d (.fl (.string c.sys))) rfl (og rfl (op_load_pt rfl Tryd.underlying9 rfl rfl rfl rfl rfl)) ?_
  refine rg_put (d := 7) (v := .d (.fl (.bool ((sEq c.sys (⟨#[]⟩)))))) rfl (og rfl (op_bin rfl rfl rfl (b_seq _ _ _) rfl)) ?_
  refine rg_put (d := 8) (v := .d (.fl (.bool ((sEq c.sys (⟨#[]⟩)))))) rfl (og rfl (op_move rfl rfl rfl)) ?_
  rcases fot ((sEq c.sys (⟨#[]⟩))) with h1 | h1
  · skip
    refine rg_put (d := 9) (v := .pt 101 1) rfl (oy rfl rfl rfl h1 (of_eff (s_field_pt rfl Tryd.underlying23 rfl ti9 rfl rfl rfl) rfl)) ?_
    refine rg_put (d := 10) (v := .d (.fl (.string c.sys))) rfl (oy rfl rfl rfl h1 (op_load_pt rfl Tryd.underlying9 rfl rfl rfl rfl rfl)) ?_
    refine rg_put (d := 11) (v := .pt 102 2) rfl (oy rfl rfl rfl h1 (of_eff (s_field_pt rfl Tryd.underlying26 rfl ti9 rfl rfl rfl) rfl)) ?_
    refine rg_put (d := 12) (v := .d (.fl (.string x.sys))) rfl (oy rfl rfl rfl h1 (op_load_pt rfl Tryd.underlying9 rfl rfl rfl rfl rfl)) ?_
    refine rg_put (d := 13) (v := .d (.fl (.bool (sEq c.sys x.sys)))) rfl (oy rfl rfl rfl h1 (op_bin rfl rfl rfl (b_seq _ _ _) rfl)) ?_
    refine rg_put (d := 14) (v := .d (.fl (.bool (sEq c.sys x.sys)))) rfl (og rfl (op_pick rfl rfl (by rw [h1]; rfl) rfl)) ?_
    refine rg_put (d := 4) (v := .d (.fl (.bool (sEq c.sys x.sys)))) rfl (og rfl (op_assign rfl rfl rfl)) ?_
    refine rg_done rfl ?_
    refine a_ret ?_
    show ∃ ds, ResL _ _ _ ds ∧ RV.of ds = _
    refine ⟨[.fl (.bool (sEq c.sys x.sys))], (.cons (.tmp rfl (.d _)) .nil), ?_⟩
    first
      | (have hu : mt c x = (sEq c.sys x.sys) := by
          unfold mt; simp only [h1, Bool.true_or, Bool.false_or, Bool.or_true, Bool.or_false, Bool.not_true, Bool.not_false, cond_true, cond_false, Bool.true_and, Bool.false_and, Bool.and_true, Bool.and_false] <;> rfl
         rw [hu]; rfl)
      | (exfalso; omega)
  · skip
    refine rg_put (d := 9) (v := .d (.fl undef)) rfl (on rfl rfl rfl h1) ?_
    refine rg_put (d := 10) (v := .d (.fl undef)) rfl (on rfl rfl rfl h1) ?_
    refine rg_put (d := 11) (v := .d (.fl undef)) rfl (on rfl rfl rfl h1) ?_
    refine rg_put (d := 12) (v := .d (.fl undef)) rfl (on rfl rfl rfl h1) ?_
    refine rg_put (d := 13) (v := .d (.fl undef)) rfl (on rfl rfl rfl h1) ?_
    refine rg_put (d := 14) (v := .d (.fl (.bool true))) rfl (og rfl (op_pick rfl rfl (by rw [h1]; rfl) rfl)) ?_
    refine rg_put (d := 4) (v := .d (.fl (.bool true))) rfl (og rfl (op_assign rfl rfl rfl)) ?_
    refine rg_done rfl ?_
    refine a_ret ?_
    show ∃ ds, ResL _ _ _ ds ∧ RV.of ds = _
    refine ⟨[.fl (.bool true)], (.cons (.tmp rfl (.d _)) .nil), ?_⟩
    first
      | (have hu : mt c x = true := by
          unfold mt; simp only [h1, Bool.true_or, Bool.false_or, Bool.or_true, Bool.or_false, Bool.not_true, Bool.not_false, cond_true, cond_false, Bool.true_and, Bool.false_and, Bool.and_true, Bool.and_false] <;> rfl
         rw [hu]; rfl)
      | (exfalso; omega)
set_option maxHeartbeats 4000000 in
set_option maxRecDepth 100000 in
theorem mt8 (c : Ca) (x : Cg) : Ctr Tryd.prog 8 [.ag (eCa c), .ag (eCg x)] (.d (.fl (.bool (mt c x)))) := by
  refine ctr (n := 15) (rs := #[.tmp 4]) (L := [(0, .d (.ag (eCa c))), (1, .d (.ag (eCg x)))]) Tryd.func8 rfl rfl rfl rfl rfl (fun w0 U0 => ?_)
  refine a_rseq ?_
  refine rg_nam (d := 2) (v := .pt 101 0) (m := 101) (nw := [(101, .bx 23 (eCa c))]) rfl (og rfl (of_eff (op_box 101 rfl rfl rfl rfl) rfl)) rfl ?_
  refine rg_nam (d := 3) (v := .pt 102 0) (m := 102) (nw := [(102, .bx 26 (eCg x))]) rfl (og rfl (of_eff (op_box 102 rfl rfl rfl rfl) rfl)) rfl ?_
  refine rg_put (d := 4) (v := .d (.fl (.bool false))) rfl (og rfl (op_assign rfl rfl rfl)) ?_
  refine rg_done rfl ?_
  refine a_rseq ?_
  refine rg_put (d := 5) (v := .pt 101 1) rfl (og rfl (of_eff (s_field_pt rfl Tryd.underlying23 rfl ti9 rfl rfl rfl) rfl)) ?_
  refine rg_put (d := 6) (v := .d (.fl (.string c.sys))) rfl (og rfl (op_load_pt rfl Tryd.underlying9 rfl rfl rfl rfl rfl)) ?_
  refine rg_put (d := 7) (v := .d (.fl (.bool ((sEq c.sys (⟨#[]⟩)))))) rfl (og rfl (op_bin rfl rfl rfl (b_seq _ _ _) rfl)) ?_
  refine rg_put (d := 8) (v := .d (.fl (.bool ((sEq c.sys (⟨#[]⟩)))))) rfl (og rfl (op_move rfl rfl rfl)) ?_
  rcases fot ((sEq c.sys (⟨#[]⟩))) with h1 | h1
  · skip
    refine rg_put (d := 9) (v := .pt 101 1) rfl (oy rfl rfl rfl h1 (of_eff (s_field_pt rfl Tryd.underlying23 rfl ti9 rfl rfl rfl) rfl)) ?_
    refine rg_put (d := 10) (v := .d (.fl (.string c.sys))) rfl (oy rfl rfl rfl h1 (op_load_pt rfl Tryd.underlying9 rfl rfl rfl rfl rfl)) ?_
    refine rg_put (d := 11) (v := .pt 102 2) rfl (oy rfl rfl rfl h1 (of_eff (s_field_pt rfl Tryd.underlying26 rfl ti9 rfl rfl rfl) rfl)) ?_
    refine rg_put (d := 12) (v := .d (.fl (.string x.sys))) rfl (oy rfl rfl rfl h1 (op_load_pt rfl Tryd.underlying9 rfl rfl rfl rfl rfl)) ?_
    refine rg_put (d := 13) (v := .d (.fl (.bool (sEq c.sys x.sys)))) rfl (oy rfl rfl rfl h1 (op_bin rfl rfl rfl (b_seq _ _ _) rfl)) ?_
    refine rg_put (d := 14) (v := .d (.fl (.bool (sEq c.sys x.sys)))) rfl (og rfl (op_pick rfl rfl (by rw [h1]; rfl) rfl)) ?_
    refine rg_put (d := 4) (v := .d (.fl (.bool (sEq c.sys x.sys)))) rfl (og rfl (op_assign rfl rfl rfl)) ?_
    refine rg_done rfl ?_
    refine a_ret ?_
    show ∃ ds, ResL _ _ _ ds ∧ RV.of ds = _
    refine ⟨[.fl (.bool (sEq c.sys x.sys))], (.cons (.tmp rfl (.d _)) .nil), ?_⟩
    first
      | (have hu : mt c x = (sEq c.sys x.sys) := by
          unfold mt; simp only [h1, Bool.true_or, Bool.false_or, Bool.or_true, Bool.or_false, Bool.not_true, Bool.not_false, cond_true, cond_false, Bool.true_and, Bool.false_and, Bool.and_true, Bool.and_false] <;> rfl
         rw [hu]; rfl)
      | (exfalso; omega)
  · skip
    refine rg_put (d := 9) (v := .d (.fl undef)) rfl (on rfl rfl rfl h1) ?_
    refine rg_put (d := 10) (v := .d (.fl undef)) rfl (on rfl rfl rfl h1) ?_
    refine rg_put (d := 11) (v := .d (.fl undef)) rfl (on rfl rfl rfl h1) ?_
    refine rg_put (d := 12) (v := .d (.fl undef)) rfl (on rfl rfl rfl h1) ?_
    refine rg_put (d := 13) (v := .d (.fl undef)) rfl (on rfl rfl rfl h1) ?_
    refine rg_put (d := 14) (v := .d (.fl (.bool true))) rfl (og rfl (op_pick rfl rfl (by rw [h1]; rfl) rfl)) ?_
    refine rg_put (d := 4) (v := .d (.fl (.bool true))) rfl (og rfl (op_assign rfl rfl rfl)) ?_
    refine rg_done rfl ?_
    refine a_ret ?_
    show ∃ ds, ResL _ _ _ ds ∧ RV.of ds = _
    refine ⟨[.fl (.bool true)], (.cons (.tmp rfl (.d _)) .nil), ?_⟩
    first
      | (have hu : mt c x = true := by
          unfold mt; simp only [h1, Bool.true_or, Bool.false_or, Bool.or_true, Bool.or_false, Bool.not_true, Bool.not_false, cond_true, cond_false, Bool.true_and, Bool.false_and, Bool.and_true, Bool.and_false] <;> rfl
         rw [hu]; rfl)
      | (exfalso; omega)
set_option maxHeartbeats 4000000 in
set_option maxRecDepth 100000 in
theorem mon20 (t : Int) : CtrK Tryd.prog KK 20 [.fl (.int .i64 t)] (.d (.fl (.int .i64 (mon t)))) := by
  refine ctrK (n := 21) (rs := #[.tmp 2]) (L := [(0, .d (.fl (.int .i64 t)))]) Tryd.func20 rfl rfl rfl rfl rfl (fun w0 U0 hG => ?_)
  refine a_rseq ?_
  refine rg_put (d := 2) (v := .d (.fl (.int .i64 0))) rfl (og rfl (op_assign rfl rfl rfl)) ?_
  refine rg_done rfl ?_
  refine a_rseq ?_
  refine rg_put (d := 7) (v := .d (.fl (.int .i64 t))) rfl (og rfl (op_move rfl rfl rfl)) ?_
  refine rg_put (d := 8) (v := .d (.fl (.int .i64 (dayN t)))) rfl (og rfl (op_call rfl Tryd.func19 nm19 rfl (.cons rfl (.d _) .nil) (day19 t) rfl)) ?_
  refine rg_put (d := 9) (v := .tu [.fl (.int .i64 ((dy (dayN t)))), .fl (.int .i64 ((dm (dayN t)))), .fl (.int .i64 ((dd (dayN t))))]) rfl (og rfl (op_callK kkst hG rfl Tryd.func27 nm27 rfl (.cons rfl (.d _) .nil) (dt27 (dayN t)) rfl)) ?_
  refine rg_put (d := 6) (v := .tu [.fl (.int .i64 ((dy (dayN t)))), .fl (.int .i64 ((dm (dayN t)))), .fl (.int .i64 ((dd (dayN t))))]) rfl (og rfl (op_move rfl rfl rfl)) ?_
  refine rg_put (d := 10) (v := .d (.fl (.int .i64 ((dy (dayN t)))))) rfl (og rfl (op_extract rfl rfl rfl rfl)) ?_
  refine rg_put (d := 11) (v := .d (.fl (.int .i64 ((dm (dayN t)))))) rfl (og rfl (op_extract rfl rfl rfl rfl)) ?_
  refine rg_put (d := 12) (v := .d (.fl (.int .i64 ((dd (dayN t)))))) rfl (og rfl (op_extract rfl rfl rfl rfl)) ?_
  refine rg_put (d := 3) (v := .d (.fl (.int .i64 ((dy (dayN t)))))) rfl (og rfl (op_assign rfl rfl rfl)) ?_
  refine rg_put (d := 4) (v := .d (.fl (.int .i64 ((dm (dayN t)))))) rfl (og rfl (op_assign rfl rfl rfl)) ?_
  refine rg_put (d := 5) (v := .d (.fl (.int .i64 ((dd (dayN t)))))) rfl (og rfl (op_assign rfl rfl rfl)) ?_
  refine rg_done rfl ?_
  refine a_seq ?_
  refine a_rseq ?_
  have hda := dat_any (dayN t)
  refine rg_put (d := 13) (v := .d (.fl (.int .i64 ((dy (dayN t)))))) rfl (og rfl (op_move rfl rfl rfl)) ?_
  refine rg_put (d := 14) (v := .d (.fl (.bool (((dy (dayN t)) == 0))))) rfl (og rfl (op_bin rfl rfl rfl (b_eql _ _ _ _) rfl)) ?_
  refine rg_done rfl ?_
  refine a_cond rfl (fun h1 => ?_) (fun h1 => ?_)
  · skip
    have h2 := t_beq h1
    refine a_rseq ?_
    refine rg_put (d := 2) (v := .d (.fl (.int .i64 (-1)))) rfl (og rfl (op_assign rfl rfl rfl)) ?_
    refine rg_done rfl ?_
    refine a_ret ?_
    show ∃ ds, ResL _ _ _ ds ∧ RV.of ds = _
    refine ⟨[.fl (.int .i64 (-1))], (.cons (.tmp rfl (.d _)) .nil), ?_⟩
    first
      | (have hu : mon t = (-1) := by
          unfold mon; simp only [h1, Bool.true_or, Bool.false_or, Bool.or_true, Bool.or_false, Bool.not_true, Bool.not_false, cond_true, cond_false, Bool.true_and, Bool.false_and, Bool.and_true, Bool.and_false] <;> first | rfl | omega
         rw [hu]; rfl)
      | (exfalso; omega)
  · skip
    have h3 := f_beq h1
    refine a_skip ?_
    show A _ _ _ _ _ _ _
    refine a_rseq ?_
    refine rg_put (d := 15) (v := .d (.fl (.int .i64 ((dy (dayN t)))))) rfl (og rfl (op_move rfl rfl rfl)) ?_
    refine rg_put (d := 16) (v := .d (.fl (.int .i64 (((dy (dayN t)) - 2001))))) rfl (og rfl (op_bin rfl rfl rfl (fun x y w => b_sub64 _ _ _ x y w (by omega)) rfl)) ?_
    refine rg_put (d := 17) (v := .d (.fl (.int .i64 ((((dy (dayN t)) - 2001) * 12))))) rfl (og rfl (op_bin rfl rfl rfl (fun x y w => b_mul64 _ _ _ x y w (by omega)) rfl)) ?_
    refine rg_put (d := 18) (v := .d (.fl (.int .i64 ((dm (dayN t)))))) rfl (og rfl (op_move rfl rfl rfl)) ?_
    refine rg_put (d := 19) (v := .d (.fl (.int .i64 (((((dy (dayN t)) - 2001) * 12) + (dm (dayN t))))))) rfl (og rfl (op_bin rfl rfl rfl (fun x y w => b_add64 _ _ _ x y w (by omega)) rfl)) ?_
    refine rg_put (d := 20) (v := .d (.fl (.int .i64 ((((((dy (dayN t)) - 2001) * 12) + (dm (dayN t))) - 1))))) rfl (og rfl (op_bin rfl rfl rfl (fun x y w => b_sub64 _ _ _ x y w (by omega)) rfl)) ?_
    refine rg_put (d := 2) (v := .d (.fl (.int .i64 ((((((dy (dayN t)) - 2001) * 12) + (dm (dayN t))) - 1))))) rfl (og rfl (op_assign rfl rfl rfl)) ?_
    refine rg_done rfl ?_
    refine a_ret ?_
    show ∃ ds, ResL _ _ _ ds ∧ RV.of ds = _
    refine ⟨[.fl (.int .i64 ((((((dy (dayN t)) - 2001) * 12) + (dm (dayN t))) - 1)))], (.cons (.tmp rfl (.d _)) .nil), ?_⟩
    first
      | (have hu : mon t = (((((dy (dayN t)) - 2001) * 12) + (dm (dayN t))) - 1) := by
          unfold mon; simp only [h1, Bool.true_or, Bool.false_or, Bool.or_true, Bool.or_false, Bool.not_true, Bool.not_false, cond_true, cond_false, Bool.true_and, Bool.false_and, Bool.and_true, Bool.and_false] <;> first | rfl | omega
         rw [hu]; rfl)
      | (exfalso; omega)
set_option maxHeartbeats 4000000 in
set_option maxRecDepth 100000 in
theorem per9 (c : Ca) (t : Int) : CtrK Tryd.prog KK 9 [.ag (eCa c), .fl (.int .i64 t)] (.d (.fl (.int .i64 (per c t)))) := by
  refine ctrK (n := 15) (rs := #[.tmp 4]) (L := [(0, .d (.ag (eCa c))), (1, .d (.fl (.int .i64 t)))]) Tryd.func9 rfl rfl rfl rfl rfl (fun w0 U0 hG => ?_)
  refine a_rseq ?_
  refine rg_nam (d := 2) (v := .pt 101 0) (m := 101) (nw := [(101, .bx 23 (eCa c))]) rfl (og rfl (of_eff (op_box 101 rfl rfl rfl rfl) rfl)) rfl ?_
  refine rg_put (d := 4) (v := .d (.fl (.int .i64 0))) rfl (og rfl (op_assign rfl rfl rfl)) ?_
  refine rg_done rfl ?_
  refine a_seq ?_
  refine a_rseq ?_
  refine rg_put (d := 5) (v := .pt 101 2) rfl (og rfl (of_eff (s_field_pt rfl Tryd.underlying23 rfl ti3 rfl rfl rfl) rfl)) ?_
  refine rg_put (d := 6) (v := .d (.fl (.int .i64 c.days))) rfl (og rfl (op_load_pt rfl Tryd.underlying3 rfl rfl rfl rfl rfl)) ?_
  refine rg_done rfl ?_
  refine a_block ?_
  refine a_rseq ?_
  refine rg_put (d := 8) (v := .d (.fl (.bool (c.days == 1)))) rfl (og rfl (op_bin rfl rfl rfl (b_eql _ _ _ _) rfl)) ?_
  refine rg_put (d := 7) (v := .d (.fl (.bool (c.days == 1)))) rfl (og rfl (op_assign rfl rfl rfl)) ?_
  refine rg_done rfl ?_
  refine a_cond rfl (fun h1 => ?_) (fun h1 => ?_)
  · skip
    have h2 := t_beq h1
    refine a_rseq ?_
    refine rg_put (d := 9) (v := .d (.fl (.int .i64 t))) rfl (og rfl (op_move rfl rfl rfl)) ?_
    refine rg_put (d := 10) (v := .d (.fl (.int .i64 (dayN t)))) rfl (og rfl (op_call rfl Tryd.func19 nm19 rfl (.cons rfl (.d _) .nil) (day19 t) rfl)) ?_
    refine rg_put (d := 4) (v := .d (.fl (.int .i64 (dayN t)))) rfl (og rfl (op_assign rfl rfl rfl)) ?_
    refine rg_done rfl ?_
    refine a_ret ?_
    show ∃ ds, ResL _ _ _ ds ∧ RV.of ds = _
    refine ⟨[.fl (.int .i64 (dayN t))], (.cons (.tmp rfl (.d _)) .nil), ?_⟩
    first
      | (have hu : per c t = (dayN t) := by
          unfold per; simp only [h1, Bool.true_or, Bool.false_or, Bool.or_true, Bool.or_false, Bool.not_true, Bool.not_false, cond_true, cond_false, Bool.true_and, Bool.false_and, Bool.and_true, Bool.and_false] <;> rfl
         rw [hu]; rfl)
      | (exfalso; omega)
  · skip
    have h3 := f_beq h1
    refine a_rseq ?_
    refine rg_put (d := 12) (v := .d (.fl (.bool (c.days == 0)))) rfl (og rfl (op_bin rfl rfl rfl (b_eql _ _ _ _) rfl)) ?_
    refine rg_put (d := 11) (v := .d (.fl (.bool (c.days == 0)))) rfl (og rfl (op_assign rfl rfl rfl)) ?_
    refine rg_done rfl ?_
    refine a_cond rfl (fun h4 => ?_) (fun h4 => ?_)
    · skip
      have h5 := t_beq h4
      refine a_rseq ?_
      refine rg_put (d := 13) (v := .d (.fl (.int .i64 t))) rfl (og rfl (op_move rfl rfl rfl)) ?_
      refine rg_put (d := 14) (v := .d (.fl (.int .i64 (mon t)))) rfl (og rfl (op_callK kkst hG rfl Tryd.func20 nm20 rfl (.cons rfl (.d _) .nil) (mon20 t) rfl)) ?_
      refine rg_put (d := 4) (v := .d (.fl (.int .i64 (mon t)))) rfl (og rfl (op_assign rfl rfl rfl)) ?_
      refine rg_done rfl ?_
      refine a_ret ?_
      show ∃ ds, ResL _ _ _ ds ∧ RV.of ds = _
      refine ⟨[.fl (.int .i64 (mon t))], (.cons (.tmp rfl (.d _)) .nil), ?_⟩
      first
        | (have hu : per c t = (mon t) := by
            unfold per; simp only [h1, h4, Bool.true_or, Bool.false_or, Bool.or_true, Bool.or_false, Bool.not_true, Bool.not_false, cond_true, cond_false, Bool.true_and, Bool.false_and, Bool.and_true, Bool.and_false] <;> rfl
           rw [hu]; rfl)
        | (exfalso; omega)
    · skip
      have h6 := f_beq h4
      refine a_skip ?_
      show A _ _ _ _ _ _ _
      refine a_rseq ?_
      refine rg_put (d := 4) (v := .d (.fl (.int .i64 (-1)))) rfl (og rfl (op_assign rfl rfl rfl)) ?_
      refine rg_done rfl ?_
      refine a_ret ?_
      show ∃ ds, ResL _ _ _ ds ∧ RV.of ds = _
      refine ⟨[.fl (.int .i64 (-1))], (.cons (.tmp rfl (.d _)) .nil), ?_⟩
      first
        | (have hu : per c t = (-1) := by
            unfold per; simp only [h1, h4, Bool.true_or, Bool.false_or, Bool.or_true, Bool.or_false, Bool.not_true, Bool.not_false, cond_true, cond_false, Bool.true_and, Bool.false_and, Bool.and_true, Bool.and_false] <;> rfl
           rw [hu]; rfl)
        | (exfalso; omega)
set_option maxHeartbeats 4000000 in
set_option maxRecDepth 100000 in
theorem per10 (c : Ca) (t : Int) : Ctr Tryd.prog 10 [.ag (eCa c), .fl (.int .i64 t)] (.d (.fl (.int .i64 (per c t)))) := by
  refine ctr (n := 33) (rs := #[.tmp 4]) (L := [(0, .d (.ag (eCa c))), (1, .d (.fl (.int .i64 t)))]) Tryd.func10 rfl rfl rfl rfl rfl (fun w0 U0 => ?_)
  refine a_rseq ?_
  refine rg_nam (d := 2) (v := .pt 101 0) (m := 101) (nw := [(101, .bx 23 (eCa c))]) rfl (og rfl (of_eff (op_box 101 rfl rfl rfl rfl) rfl)) rfl ?_
  refine rg_put (d := 4) (v := .d (.fl (.int .i64 0))) rfl (og rfl (op_assign rfl rfl rfl)) ?_
  refine rg_done rfl ?_
  refine a_seq ?_
  refine a_rseq ?_
  refine rg_put (d := 8) (v := .pt 101 2) rfl (og rfl (of_eff (s_field_pt rfl Tryd.underlying23 rfl ti3 rfl rfl rfl) rfl)) ?_
  refine rg_put (d := 9) (v := .d (.fl (.int .i64 c.days))) rfl (og rfl (op_load_pt rfl Tryd.underlying3 rfl rfl rfl rfl rfl)) ?_
  refine rg_put (d := 10) (v := .d (.fl (.bool (c.days == 1)))) rfl (og rfl (op_bin rfl rfl rfl (b_eql _ _ _ _) rfl)) ?_
  refine rg_done rfl ?_
  refine a_cond rfl (fun h1 => ?_) (fun h1 => ?_)
  · skip
    have h2 := t_beq h1
    refine a_rseq ?_
    refine rg_put (d := 11) (v := .d (.fl (.int .i64 t))) rfl (og rfl (op_move rfl rfl rfl)) ?_
    refine rg_put (d := 12) (v := .d (.fl (.int .i64 (dayN t)))) rfl (og rfl (op_call rfl Tryd.func21 nm21 rfl (.cons rfl (.d _) .nil) (day21 t) rfl)) ?_
    refine rg_put (d := 4) (v := .d (.fl (.int .i64 (dayN t)))) rfl (og rfl (op_assign rfl rfl rfl)) ?_
    refine rg_done rfl ?_
    refine a_ret ?_
    show ∃ ds, ResL _ _ _ ds ∧ RV.of ds = _
    refine ⟨[.fl (.int .i64 (dayN t))], (.cons (.tmp rfl (.d _)) .nil), ?_⟩
    have h1x : per c t = per c t := rfl
    have hu : per c t = (dayN t) := by
      unfold per mon; simp only [h1, Bool.true_or, Bool.false_or, Bool.or_true, Bool.or_false, Bool.not_true, Bool.not_false, cond_true, cond_false, Bool.true_and, Bool.false_and, Bool.and_true, Bool.and_false] <;> first | rfl | omega
    rw [hu]; rfl
  · skip
    have h3 := f_beq h1
    refine a_skip ?_
    show A _ _ _ _ _ _ _
    refine a_rseq ?_
    refine rg_put (d := 14) (v := .d (.fl (.int .i64 t))) rfl (og rfl (op_move rfl rfl rfl)) ?_
    refine rg_put (d := 15) (v := .d (.fl (.int .i64 (dayN t)))) rfl (og rfl (op_call rfl Tryd.func21 nm21 rfl (.cons rfl (.d _) .nil) (day21 t) rfl)) ?_
    refine rg_put (d := 16) (v := .tu [.fl (.int .i64 ((dy (dayN t)))), .fl (.int .i64 ((dm (dayN t)))), .fl (.int .i64 ((dd (dayN t))))]) rfl (og rfl (op_call rfl Tryd.func22 nm22 rfl (.cons rfl (.d _) .nil) (dt22 (dayN t)) rfl)) ?_
    refine rg_put (d := 13) (v := .tu [.fl (.int .i64 ((dy (dayN t)))), .fl (.int .i64 ((dm (dayN t)))), .fl (.int .i64 ((dd (dayN t))))]) rfl (og rfl (op_move rfl rfl rfl)) ?_
    refine rg_put (d := 17) (v := .d (.fl (.int .i64 ((dy (dayN t)))))) rfl (og rfl (op_extract rfl rfl rfl rfl)) ?_
    refine rg_put (d := 18) (v := .d (.fl (.int .i64 ((dm (dayN t)))))) rfl (og rfl (op_extract rfl rfl rfl rfl)) ?_
    refine rg_put (d := 19) (v := .d (.fl (.int .i64 ((dd (dayN t)))))) rfl (og rfl (op_extract rfl rfl rfl rfl)) ?_
    refine rg_put (d := 5) (v := .d (.fl (.int .i64 ((dy (dayN t)))))) rfl (og rfl (op_assign rfl rfl rfl)) ?_
    refine rg_put (d := 6) (v := .d (.fl (.int .i64 ((dm (dayN t)))))) rfl (og rfl (op_assign rfl rfl rfl)) ?_
    refine rg_put (d := 7) (v := .d (.fl (.int .i64 ((dd (dayN t)))))) rfl (og rfl (op_assign rfl rfl rfl)) ?_
    refine rg_done rfl ?_
    refine a_seq ?_
    refine a_rseq ?_
    have hda := dat_any (dayN t)
    refine rg_put (d := 20) (v := .pt 101 2) rfl (og rfl (of_eff (s_field_pt rfl Tryd.underlying23 rfl ti3 rfl rfl rfl) rfl)) ?_
    refine rg_put (d := 21) (v := .d (.fl (.int .i64 c.days))) rfl (og rfl (op_load_pt rfl Tryd.underlying3 rfl rfl rfl rfl rfl)) ?_
    refine rg_put (d := 22) (v := .d (.fl (.bool (c.days != 0)))) rfl (og rfl (op_bin rfl rfl rfl (b_neq _ _ _ _) rfl)) ?_
    refine rg_put (d := 23) (v := .d (.fl (.bool (c.days != 0)))) rfl (og rfl (op_move rfl rfl rfl)) ?_
    rcases fot (c.days != 0) with h4 | h4
    · skip
      have h5 := f_bne h4
      refine rg_put (d := 24) (v := .d (.fl (.int .i64 ((dy (dayN t)))))) rfl (oy rfl rfl rfl h4 (op_move rfl rfl rfl)) ?_
      refine rg_put (d := 25) (v := .d (.fl (.bool (((dy (dayN t)) == 0))))) rfl (oy rfl rfl rfl h4 (op_bin rfl rfl rfl (b_eql _ _ _ _) rfl)) ?_
      refine rg_put (d := 26) (v := .d (.fl (.bool (((dy (dayN t)) == 0))))) rfl (og rfl (op_pick rfl rfl (by rw [h4]; rfl) rfl)) ?_
      refine rg_done rfl ?_
      refine a_cond rfl (fun h6 => ?_) (fun h6 => ?_)
      · skip
        have h7 := t_beq h6
        refine a_rseq ?_
        refine rg_put (d := 4) (v := .d (.fl (.int .i64 (-1)))) rfl (og rfl (op_assign rfl rfl rfl)) ?_
        refine rg_done rfl ?_
        refine a_ret ?_
        show ∃ ds, ResL _ _ _ ds ∧ RV.of ds = _
        refine ⟨[.fl (.int .i64 (-1))], (.cons (.tmp rfl (.d _)) .nil), ?_⟩
        have h1x : per c t = per c t := rfl
        have hz : (c.days == 0) = true := by simp; omega
        have hu : per c t = (-1) := by
          unfold per mon; simp only [h1, h4, h6, hz, Bool.true_or, Bool.false_or, Bool.or_true, Bool.or_false, Bool.not_true, Bool.not_false, cond_true, cond_false, Bool.true_and, Bool.false_and, Bool.and_true, Bool.and_false] <;> first | rfl | omega
        rw [hu]; rfl
      · skip
        have h8 := f_beq h6
        refine a_skip ?_
        show A _ _ _ _ _ _ _
        refine a_rseq ?_
        refine rg_put (d := 27) (v := .d (.fl (.int .i64 ((dy (dayN t)))))) rfl (og rfl (op_move rfl rfl rfl)) ?_
        refine rg_put (d := 28) (v := .d (.fl (.int .i64 (((dy (dayN t)) - 2001))))) rfl (og rfl (op_bin rfl rfl rfl (fun x y w => b_sub64 _ _ _ x y w (by omega)) rfl)) ?_
        refine rg_put (d := 29) (v := .d (.fl (.int .i64 ((12 * ((dy (dayN t)) - 2001)))))) rfl (og rfl (op_bin rfl rfl rfl (fun x y w => b_mul64 _ _ _ x y w (by omega)) rfl)) ?_
        refine rg_put (d := 30) (v := .d (.fl (.int .i64 ((dm (dayN t)))))) rfl (og rfl (op_move rfl rfl rfl)) ?_
        refine rg_put (d := 31) (v := .d (.fl (.int .i64 (((12 * ((dy (dayN t)) - 2001)) + (dm (dayN t))))))) rfl (og rfl (op_bin rfl rfl rfl (fun x y w => b_add64 _ _ _ x y w (by omega)) rfl)) ?_
        refine rg_put (d := 32) (v := .d (.fl (.int .i64 ((((12 * ((dy (dayN t)) - 2001)) + (dm (dayN t))) - 1))))) rfl (og rfl (op_bin rfl rfl rfl (fun x y w => b_sub64 _ _ _ x y w (by omega)) rfl)) ?_
        refine rg_put (d := 4) (v := .d (.fl (.int .i64 ((((12 * ((dy (dayN t)) - 2001)) + (dm (dayN t))) - 1))))) rfl (og rfl (op_assign rfl rfl rfl)) ?_
        refine rg_done rfl ?_
        refine a_ret ?_
        show ∃ ds, ResL _ _ _ ds ∧ RV.of ds = _
        refine ⟨[.fl (.int .i64 ((((12 * ((dy (dayN t)) - 2001)) + (dm (dayN t))) - 1)))], (.cons (.tmp rfl (.d _)) .nil), ?_⟩
        have h1x : per c t = per c t := rfl
        have hz : (c.days == 0) = true := by simp; omega
        have hu : per c t = (((12 * ((dy (dayN t)) - 2001)) + (dm (dayN t))) - 1) := by
          unfold per mon; simp only [h1, h4, h6, hz, Bool.true_or, Bool.false_or, Bool.or_true, Bool.or_false, Bool.not_true, Bool.not_false, cond_true, cond_false, Bool.true_and, Bool.false_and, Bool.and_true, Bool.and_false] <;> first | rfl | omega
        rw [hu]; rfl
    · skip
      have h9 := t_bne h4
      refine rg_put (d := 24) (v := .d (.fl undef)) rfl (on rfl rfl rfl h4) ?_
      refine rg_put (d := 25) (v := .d (.fl undef)) rfl (on rfl rfl rfl h4) ?_
      refine rg_put (d := 26) (v := .d (.fl (.bool true))) rfl (og rfl (op_pick rfl rfl (by rw [h4]; rfl) rfl)) ?_
      refine rg_done rfl ?_
      refine a_condK rfl rfl ?_
      refine a_rseq ?_
      refine rg_put (d := 4) (v := .d (.fl (.int .i64 (-1)))) rfl (og rfl (op_assign rfl rfl rfl)) ?_
      refine rg_done rfl ?_
      refine a_ret ?_
      show ∃ ds, ResL _ _ _ ds ∧ RV.of ds = _
      refine ⟨[.fl (.int .i64 (-1))], (.cons (.tmp rfl (.d _)) .nil), ?_⟩
      have h1x : per c t = per c t := rfl
      have hz : (c.days == 0) = false := by simp; omega
      have hu : per c t = (-1) := by
        unfold per mon; simp only [h1, h4, hz, Bool.true_or, Bool.false_or, Bool.or_true, Bool.or_false, Bool.not_true, Bool.not_false, cond_true, cond_false, Bool.true_and, Bool.false_and, Bool.and_true, Bool.and_false] <;> first | rfl | omega
      rw [hu]; rfl
set_option maxHeartbeats 4000000 in
set_option maxRecDepth 100000 in
theorem ck5 (c : Ca) : Ctr Tryd.prog 5 [.ag (eCa c)] (.d (.fl (.int .i64 (ck c)))) := by
  refine ctr (n := 37) (rs := #[.tmp 2]) (L := [(0, .d (.ag (eCa c)))]) Tryd.func5 rfl rfl rfl rfl rfl (fun w0 U0 => ?_)
  refine a_rseq ?_
  refine rg_nam (d := 1) (v := .pt 101 0) (m := 101) (nw := [(101, .bx 23 (eCa c))]) rfl (og rfl (of_eff (op_box 101 rfl rfl rfl rfl) rfl)) rfl ?_
  refine rg_put (d := 2) (v := .d (.fl (.int .i64 0))) rfl (og rfl (op_assign rfl rfl rfl)) ?_
  refine rg_done rfl ?_
  refine a_seq ?_
  refine a_block ?_
  refine a_rseq ?_
  refine rg_put (d := 4) (v := .pt 101 0) rfl (og rfl (of_eff (s_field_pt rfl Tryd.underlying23 rfl ti9 rfl rfl rfl) rfl)) ?_
  refine rg_put (d := 5) (v := .d (.fl (.string c.name))) rfl (og rfl (op_load_pt rfl Tryd.underlying9 rfl rfl rfl rfl rfl)) ?_
  refine rg_put (d := 6) (v := .d (.fl (.bool (Nm.nmB c.name)))) rfl (og rfl (op_call rfl Tryd.func15 nm15 rfl (.cons rfl (.d _) .nil) (nam15 c.name) rfl)) ?_
  refine rg_put (d := 7) (v := .d (.fl (.bool ((!(Nm.nmB c.name)))))) rfl (og rfl (op_un rfl rfl (u_not _) rfl)) ?_
  refine rg_put (d := 3) (v := .d (.fl (.bool ((!(Nm.nmB c.name)))))) rfl (og rfl (op_assign rfl rfl rfl)) ?_
  refine rg_done rfl ?_
  refine a_cond rfl (fun h1 => ?_) (fun h1 => ?_)
  · skip
    have h2 := t_not h1
    refine a_rseq ?_
    refine rg_put (d := 2) (v := .d (.fl (.int .i64 6))) rfl (og rfl (op_assign rfl rfl rfl)) ?_
    refine rg_done rfl ?_
    refine a_ret ?_
    show ∃ ds, ResL _ _ _ ds ∧ RV.of ds = _
    refine ⟨[.fl (.int .i64 6)], (.cons (.tmp rfl (.d _)) .nil), ?_⟩
    first
      | (have hu : ck c = 6 := by unfold ck; simp only [h1, h2, Bool.true_or, Bool.false_or, Bool.or_true, Bool.or_false, Bool.not_true, Bool.not_false, cond_true, cond_false, Bool.true_and, Bool.false_and, Bool.and_true, Bool.and_false] <;> rfl
         rw [hu]; rfl)
      | (exfalso; omega)
  · skip
    have h3 := f_not h1
    refine a_rseq ?_
    refine rg_put (d := 9) (v := .pt 101 1) rfl (og rfl (of_eff (s_field_pt rfl Tryd.underlying23 rfl ti9 rfl rfl rfl) rfl)) ?_
    refine rg_put (d := 10) (v := .d (.fl (.string c.sys))) rfl (og rfl (op_load_pt rfl Tryd.underlying9 rfl rfl rfl rfl rfl)) ?_
    refine rg_put (d := 11) (v := .d (.fl (.bool ((!(sEq c.sys (⟨#[]⟩))))))) rfl (og rfl (op_bin rfl rfl rfl (b_sne _ _ _) rfl)) ?_
    refine rg_put (d := 12) (v := .d (.fl (.bool ((!(sEq c.sys (⟨#[]⟩))))))) rfl (og rfl (op_move rfl rfl rfl)) ?_
    rcases fot ((!(sEq c.sys (⟨#[]⟩)))) with h4 | h4
    · skip
      have h5 := f_not h4
      refine rg_put (d := 13) (v := .d (.fl undef)) rfl (on rfl rfl rfl h4) ?_
      refine rg_put (d := 14) (v := .d (.fl undef)) rfl (on rfl rfl rfl h4) ?_
      refine rg_put (d := 15) (v := .d (.fl undef)) rfl (on rfl rfl rfl h4) ?_
      refine rg_put (d := 16) (v := .d (.fl undef)) rfl (on rfl rfl rfl h4) ?_
      refine rg_put (d := 17) (v := .d (.fl (.bool false))) rfl (og rfl (op_pick rfl rfl (by rw [h4]; rfl) rfl)) ?_
      refine rg_put (d := 8) (v := .d (.fl (.bool false))) rfl (og rfl (op_assign rfl rfl rfl)) ?_
      refine rg_done rfl ?_
      refine a_condF rfl rfl ?_
      refine a_rseq ?_
      refine rg_put (d := 19) (v := .pt 101 2) rfl (og rfl (of_eff (s_field_pt rfl Tryd.underlying23 rfl ti3 rfl rfl rfl) rfl)) ?_
      refine rg_put (d := 20) (v := .d (.fl (.int .i64 c.days))) rfl (og rfl (op_load_pt rfl Tryd.underlying3 rfl rfl rfl rfl rfl)) ?_
      refine rg_put (d := 21) (v := .d (.fl (.bool (c.days != 0)))) rfl (og rfl (op_bin rfl rfl rfl (b_neq _ _ _ _) rfl)) ?_
      refine rg_put (d := 22) (v := .d (.fl (.bool (c.days != 0)))) rfl (og rfl (op_move rfl rfl rfl)) ?_
      rcases fot (c.days != 0) with h6 | h6
      · skip
        have h7 := f_bne h6
        refine rg_put (d := 23) (v := .d (.fl undef)) rfl (on rfl rfl rfl h6) ?_
        refine rg_put (d := 24) (v := .d (.fl undef)) rfl (on rfl rfl rfl h6) ?_
        refine rg_put (d := 25) (v := .d (.fl undef)) rfl (on rfl rfl rfl h6) ?_
        refine rg_put (d := 26) (v := .d (.fl (.bool false))) rfl (og rfl (op_pick rfl rfl (by rw [h6]; rfl) rfl)) ?_
        refine rg_put (d := 18) (v := .d (.fl (.bool false))) rfl (og rfl (op_assign rfl rfl rfl)) ?_
        refine rg_done rfl ?_
        refine a_condF rfl rfl ?_
        refine a_rseq ?_
        refine rg_put (d := 28) (v := .pt 101 3) rfl (og rfl (of_eff (s_field_pt rfl Tryd.underlying23 rfl ti3 rfl rfl rfl) rfl)) ?_
        refine rg_put (d := 29) (v := .d (.fl (.int .i64 c.cents))) rfl (og rfl (op_load_pt rfl Tryd.underlying3 rfl rfl rfl rfl rfl)) ?_
        refine rg_put (d := 30) (v := .d (.fl (.bool ((decide (c.cents < 0)))))) rfl (og rfl (op_bin rfl rfl rfl (b_lss _ _ _ _) rfl)) ?_
        refine rg_put (d := 31) (v := .d (.fl (.bool ((decide (c.cents < 0)))))) rfl (og rfl (op_move rfl rfl rfl)) ?_
        rcases fot ((decide (c.cents < 0))) with h8 | h8
        · skip
          have h9 := f_dec h8
          refine rg_put (d := 32) (v := .pt 101 3) rfl (oy rfl rfl rfl h8 (of_eff (s_field_pt rfl Tryd.underlying23 rfl ti3 rfl rfl rfl) rfl)) ?_
          refine rg_put (d := 33) (v := .d (.fl (.int .i64 c.cents))) rfl (oy rfl rfl rfl h8 (op_load_pt rfl Tryd.underlying3 rfl rfl rfl rfl rfl)) ?_
          refine rg_put (d := 34) (v := .d (.fl (.bool (fitB c.cents)))) rfl (oy rfl rfl rfl h8 (op_call rfl Tryd.func16 nm16 rfl (.cons rfl (.d _) .nil) (fit16 c.cents) rfl)) ?_
          refine rg_put (d := 35) (v := .d (.fl (.bool ((!(fitB c.cents)))))) rfl (oy rfl rfl rfl h8 (op_un rfl rfl (u_not _) rfl)) ?_
          refine rg_put (d := 36) (v := .d (.fl (.bool ((!(fitB c.cents)))))) rfl (og rfl (op_pick rfl rfl (by rw [h8]; rfl) rfl)) ?_
          refine rg_put (d := 27) (v := .d (.fl (.bool ((!(fitB c.cents)))))) rfl (og rfl (op_assign rfl rfl rfl)) ?_
          refine rg_done rfl ?_
          refine a_cond rfl (fun h10 => ?_) (fun h10 => ?_)
          · skip
            have h11 := t_not h10
            refine a_rseq ?_
            refine rg_put (d := 2) (v := .d (.fl (.int .i64 13))) rfl (og rfl (op_assign rfl rfl rfl)) ?_
            refine rg_done rfl ?_
            refine a_ret ?_
            show ∃ ds, ResL _ _ _ ds ∧ RV.of ds = _
            refine ⟨[.fl (.int .i64 13)], (.cons (.tmp rfl (.d _)) .nil), ?_⟩
            have ham : amo c.cents = false := by rw [Bool.eq_false_iff]; intro h; have h2 := amo_t h; have h3 := h11; rw [show fitB c.cents = true by simp [fitB]; omega] at h3; cases h3
            first
              | (have hu : ck c = 13 := by unfold ck; simp only [h1, h3, h4, h5, h6, h8, h10, h11, ham, Bool.true_or, Bool.false_or, Bool.or_true, Bool.or_false, Bool.not_true, Bool.not_false, cond_true, cond_false, Bool.true_and, Bool.false_and, Bool.and_true, Bool.and_false] <;> rfl
                 rw [hu]; rfl)
              | (exfalso; omega)
          · skip
            have h12 := f_not h10
            refine a_skip ?_
            show A _ _ _ _ _ _ _
            refine a_rseq ?_
            refine rg_put (d := 2) (v := .d (.fl (.int .i64 0))) rfl (og rfl (op_assign rfl rfl rfl)) ?_
            refine rg_done rfl ?_
            refine a_ret ?_
            show ∃ ds, ResL _ _ _ ds ∧ RV.of ds = _
            refine ⟨[.fl (.int .i64 0)], (.cons (.tmp rfl (.d _)) .nil), ?_⟩
            have ham : amo c.cents = true := by have := h12; simp [fitB] at this; simp [amo]; omega
            first
              | (have hu : ck c = 0 := by unfold ck; simp only [h1, h3, h4, h5, h6, h8, h10, h12, ham, Bool.true_or, Bool.false_or, Bool.or_true, Bool.or_false, Bool.not_true, Bool.not_false, cond_true, cond_false, Bool.true_and, Bool.false_and, Bool.and_true, Bool.and_false] <;> rfl
                 rw [hu]; rfl)
              | (exfalso; omega)
        · skip
          have h13 := t_dec h8
          refine rg_put (d := 32) (v := .d (.fl undef)) rfl (on rfl rfl rfl h8) ?_
          refine rg_put (d := 33) (v := .d (.fl undef)) rfl (on rfl rfl rfl h8) ?_
          refine rg_put (d := 34) (v := .d (.fl undef)) rfl (on rfl rfl rfl h8) ?_
          refine rg_put (d := 35) (v := .d (.fl undef)) rfl (on rfl rfl rfl h8) ?_
          refine rg_put (d := 36) (v := .d (.fl (.bool true))) rfl (og rfl (op_pick rfl rfl (by rw [h8]; rfl) rfl)) ?_
          refine rg_put (d := 27) (v := .d (.fl (.bool true))) rfl (og rfl (op_assign rfl rfl rfl)) ?_
          refine rg_done rfl ?_
          refine a_condK rfl rfl ?_
          refine a_rseq ?_
          refine rg_put (d := 2) (v := .d (.fl (.int .i64 13))) rfl (og rfl (op_assign rfl rfl rfl)) ?_
          refine rg_done rfl ?_
          refine a_ret ?_
          show ∃ ds, ResL _ _ _ ds ∧ RV.of ds = _
          refine ⟨[.fl (.int .i64 13)], (.cons (.tmp rfl (.d _)) .nil), ?_⟩
          have ham : amo c.cents = false := by rw [Bool.eq_false_iff]; intro h; have := amo_t h; omega
          first
            | (have hu : ck c = 13 := by unfold ck; simp only [h1, h3, h4, h5, h6, h8, ham, Bool.true_or, Bool.false_or, Bool.or_true, Bool.or_false, Bool.not_true, Bool.not_false, cond_true, cond_false, Bool.true_and, Bool.false_and, Bool.and_true, Bool.and_false] <;> rfl
               rw [hu]; rfl)
            | (exfalso; omega)
      · skip
        have h14 := t_bne h6
        refine rg_put (d := 23) (v := .pt 101 2) rfl (oy rfl rfl rfl h6 (of_eff (s_field_pt rfl Tryd.underlying23 rfl ti3 rfl rfl rfl) rfl)) ?_
        refine rg_put (d := 24) (v := .d (.fl (.int .i64 c.days))) rfl (oy rfl rfl rfl h6 (op_load_pt rfl Tryd.underlying3 rfl rfl rfl rfl rfl)) ?_
        refine rg_put (d := 25) (v := .d (.fl (.bool (c.days != 1)))) rfl (oy rfl rfl rfl h6 (op_bin rfl rfl rfl (b_neq _ _ _ _) rfl)) ?_
        refine rg_put (d := 26) (v := .d (.fl (.bool (c.days != 1)))) rfl (og rfl (op_pick rfl rfl (by rw [h6]; rfl) rfl)) ?_
        refine rg_put (d := 18) (v := .d (.fl (.bool (c.days != 1)))) rfl (og rfl (op_assign rfl rfl rfl)) ?_
        refine rg_done rfl ?_
        refine a_cond rfl (fun h15 => ?_) (fun h15 => ?_)
        · skip
          have h16 := t_bne h15
          refine a_rseq ?_
          refine rg_put (d := 2) (v := .d (.fl (.int .i64 1))) rfl (og rfl (op_assign rfl rfl rfl)) ?_
          refine rg_done rfl ?_
          refine a_ret ?_
          show ∃ ds, ResL _ _ _ ds ∧ RV.of ds = _
          refine ⟨[.fl (.int .i64 1)], (.cons (.tmp rfl (.d _)) .nil), ?_⟩
          first
            | (have hu : ck c = 1 := by unfold ck; simp only [h1, h3, h4, h5, h6, h15, Bool.true_or, Bool.false_or, Bool.or_true, Bool.or_false, Bool.not_true, Bool.not_false, cond_true, cond_false, Bool.true_and, Bool.false_and, Bool.and_true, Bool.and_false] <;> rfl
               rw [hu]; rfl)
            | (exfalso; omega)
        · skip
          have h17 := f_bne h15
          refine a_rseq ?_
          refine rg_put (d := 28) (v := .pt 101 3) rfl (og rfl (of_eff (s_field_pt rfl Tryd.underlying23 rfl ti3 rfl rfl rfl) rfl)) ?_
          refine rg_put (d := 29) (v := .d (.fl (.int .i64 c.cents))) rfl (og rfl (op_load_pt rfl Tryd.underlying3 rfl rfl rfl rfl rfl)) ?_
          refine rg_put (d := 30) (v := .d (.fl (.bool ((decide (c.cents < 0)))))) rfl (og rfl (op_bin rfl rfl rfl (b_lss _ _ _ _) rfl)) ?_
          refine rg_put (d := 31) (v := .d (.fl (.bool ((decide (c.cents < 0)))))) rfl (og rfl (op_move rfl rfl rfl)) ?_
          rcases fot ((decide (c.cents < 0))) with h18 | h18
          · skip
            have h19 := f_dec h18
            refine rg_put (d := 32) (v := .pt 101 3) rfl (oy rfl rfl rfl h18 (of_eff (s_field_pt rfl Tryd.underlying23 rfl ti3 rfl rfl rfl) rfl)) ?_
            refine rg_put (d := 33) (v := .d (.fl (.int .i64 c.cents))) rfl (oy rfl rfl rfl h18 (op_load_pt rfl Tryd.underlying3 rfl rfl rfl rfl rfl)) ?_
            refine rg_put (d := 34) (v := .d (.fl (.bool (fitB c.cents)))) rfl (oy rfl rfl rfl h18 (op_call rfl Tryd.func16 nm16 rfl (.cons rfl (.d _) .nil) (fit16 c.cents) rfl)) ?_
            refine rg_put (d := 35) (v := .d (.fl (.bool ((!(fitB c.cents)))))) rfl (oy rfl rfl rfl h18 (op_un rfl rfl (u_not _) rfl)) ?_
            refine rg_put (d := 36) (v := .d (.fl (.bool ((!(fitB c.cents)))))) rfl (og rfl (op_pick rfl rfl (by rw [h18]; rfl) rfl)) ?_
            refine rg_put (d := 27) (v := .d (.fl (.bool ((!(fitB c.cents)))))) rfl (og rfl (op_assign rfl rfl rfl)) ?_
            refine rg_done rfl ?_
            refine a_cond rfl (fun h20 => ?_) (fun h20 => ?_)
            · skip
              have h21 := t_not h20
              refine a_rseq ?_
              refine rg_put (d := 2) (v := .d (.fl (.int .i64 13))) rfl (og rfl (op_assign rfl rfl rfl)) ?_
              refine rg_done rfl ?_
              refine a_ret ?_
              show ∃ ds, ResL _ _ _ ds ∧ RV.of ds = _
              refine ⟨[.fl (.int .i64 13)], (.cons (.tmp rfl (.d _)) .nil), ?_⟩
              have ham : amo c.cents = false := by rw [Bool.eq_false_iff]; intro h; have h2 := amo_t h; have h3 := h21; rw [show fitB c.cents = true by simp [fitB]; omega] at h3; cases h3
              first
                | (have hu : ck c = 13 := by unfold ck; simp only [h1, h3, h4, h5, h6, h15, h18, h20, h21, ham, Bool.true_or, Bool.false_or, Bool.or_true, Bool.or_false, Bool.not_true, Bool.not_false, cond_true, cond_false, Bool.true_and, Bool.false_and, Bool.and_true, Bool.and_false] <;> rfl
                   rw [hu]; rfl)
                | (exfalso; omega)
            · skip
              have h22 := f_not h20
              refine a_skip ?_
              show A _ _ _ _ _ _ _
              refine a_rseq ?_
              refine rg_put (d := 2) (v := .d (.fl (.int .i64 0))) rfl (og rfl (op_assign rfl rfl rfl)) ?_
              refine rg_done rfl ?_
              refine a_ret ?_
              show ∃ ds, ResL _ _ _ ds ∧ RV.of ds = _
              refine ⟨[.fl (.int .i64 0)], (.cons (.tmp rfl (.d _)) .nil), ?_⟩
              have ham : amo c.cents = true := by have := h22; simp [fitB] at this; simp [amo]; omega
              first
                | (have hu : ck c = 0 := by unfold ck; simp only [h1, h3, h4, h5, h6, h15, h18, h20, h22, ham, Bool.true_or, Bool.false_or, Bool.or_true, Bool.or_false, Bool.not_true, Bool.not_false, cond_true, cond_false, Bool.true_and, Bool.false_and, Bool.and_true, Bool.and_false] <;> rfl
                   rw [hu]; rfl)
                | (exfalso; omega)
          · skip
            have h23 := t_dec h18
            refine rg_put (d := 32) (v := .d (.fl undef)) rfl (on rfl rfl rfl h18) ?_
            refine rg_put (d := 33) (v := .d (.fl undef)) rfl (on rfl rfl rfl h18) ?_
            refine rg_put (d := 34) (v := .d (.fl undef)) rfl (on rfl rfl rfl h18) ?_
            refine rg_put (d := 35) (v := .d (.fl undef)) rfl (on rfl rfl rfl h18) ?_
            refine rg_put (d := 36) (v := .d (.fl (.bool true))) rfl (og rfl (op_pick rfl rfl (by rw [h18]; rfl) rfl)) ?_
            refine rg_put (d := 27) (v := .d (.fl (.bool true))) rfl (og rfl (op_assign rfl rfl rfl)) ?_
            refine rg_done rfl ?_
            refine a_condK rfl rfl ?_
            refine a_rseq ?_
            refine rg_put (d := 2) (v := .d (.fl (.int .i64 13))) rfl (og rfl (op_assign rfl rfl rfl)) ?_
            refine rg_done rfl ?_
            refine a_ret ?_
            show ∃ ds, ResL _ _ _ ds ∧ RV.of ds = _
            refine ⟨[.fl (.int .i64 13)], (.cons (.tmp rfl (.d _)) .nil), ?_⟩
            have ham : amo c.cents = false := by rw [Bool.eq_false_iff]; intro h; have := amo_t h; omega
            first
              | (have hu : ck c = 13 := by unfold ck; simp only [h1, h3, h4, h5, h6, h15, h18, ham, Bool.true_or, Bool.false_or, Bool.or_true, Bool.or_false, Bool.not_true, Bool.not_false, cond_true, cond_false, Bool.true_and, Bool.false_and, Bool.and_true, Bool.and_false] <;> rfl
                 rw [hu]; rfl)
              | (exfalso; omega)
    · skip
      have h24 := t_not h4
      refine rg_put (d := 13) (v := .pt 101 1) rfl (oy rfl rfl rfl h4 (of_eff (s_field_pt rfl Tryd.underlying23 rfl ti9 rfl rfl rfl) rfl)) ?_
      refine rg_put (d := 14) (v := .d (.fl (.string c.sys))) rfl (oy rfl rfl rfl h4 (op_load_pt rfl Tryd.underlying9 rfl rfl rfl rfl rfl)) ?_
      refine rg_put (d := 15) (v := .d (.fl (.bool (Nm.nmB c.sys)))) rfl (oy rfl rfl rfl h4 (op_call rfl Tryd.func15 nm15 rfl (.cons rfl (.d _) .nil) (nam15 c.sys) rfl)) ?_
      refine rg_put (d := 16) (v := .d (.fl (.bool ((!(Nm.nmB c.sys)))))) rfl (oy rfl rfl rfl h4 (op_un rfl rfl (u_not _) rfl)) ?_
      refine rg_put (d := 17) (v := .d (.fl (.bool ((!(Nm.nmB c.sys)))))) rfl (og rfl (op_pick rfl rfl (by rw [h4]; rfl) rfl)) ?_
      refine rg_put (d := 8) (v := .d (.fl (.bool ((!(Nm.nmB c.sys)))))) rfl (og rfl (op_assign rfl rfl rfl)) ?_
      refine rg_done rfl ?_
      refine a_cond rfl (fun h25 => ?_) (fun h25 => ?_)
      · skip
        have h26 := t_not h25
        refine a_rseq ?_
        refine rg_put (d := 2) (v := .d (.fl (.int .i64 6))) rfl (og rfl (op_assign rfl rfl rfl)) ?_
        refine rg_done rfl ?_
        refine a_ret ?_
        show ∃ ds, ResL _ _ _ ds ∧ RV.of ds = _
        refine ⟨[.fl (.int .i64 6)], (.cons (.tmp rfl (.d _)) .nil), ?_⟩
        first
          | (have hu : ck c = 6 := by unfold ck; simp only [h1, h3, h4, h24, h25, h26, Bool.true_or, Bool.false_or, Bool.or_true, Bool.or_false, Bool.not_true, Bool.not_false, cond_true, cond_false, Bool.true_and, Bool.false_and, Bool.and_true, Bool.and_false] <;> rfl
             rw [hu]; rfl)
          | (exfalso; omega)
      · skip
        have h27 := f_not h25
        refine a_rseq ?_
        refine rg_put (d := 19) (v := .pt 101 2) rfl (og rfl (of_eff (s_field_pt rfl Tryd.underlying23 rfl ti3 rfl rfl rfl) rfl)) ?_
        refine rg_put (d := 20) (v := .d (.fl (.int .i64 c.days))) rfl (og rfl (op_load_pt rfl Tryd.underlying3 rfl rfl rfl rfl rfl)) ?_
        refine rg_put (d := 21) (v := .d (.fl (.bool (c.days != 0)))) rfl (og rfl (op_bin rfl rfl rfl (b_neq _ _ _ _) rfl)) ?_
        refine rg_put (d := 22) (v := .d (.fl (.bool (c.days != 0)))) rfl (og rfl (op_move rfl rfl rfl)) ?_
        rcases fot (c.days != 0) with h28 | h28
        · skip
          have h29 := f_bne h28
          refine rg_put (d := 23) (v := .d (.fl undef)) rfl (on rfl rfl rfl h28) ?_
          refine rg_put (d := 24) (v := .d (.fl undef)) rfl (on rfl rfl rfl h28) ?_
          refine rg_put (d := 25) (v := .d (.fl undef)) rfl (on rfl rfl rfl h28) ?_
          refine rg_put (d := 26) (v := .d (.fl (.bool false))) rfl (og rfl (op_pick rfl rfl (by rw [h28]; rfl) rfl)) ?_
          refine rg_put (d := 18) (v := .d (.fl (.bool false))) rfl (og rfl (op_assign rfl rfl rfl)) ?_
          refine rg_done rfl ?_
          refine a_condF rfl rfl ?_
          refine a_rseq ?_
          refine rg_put (d := 28) (v := .pt 101 3) rfl (og rfl (of_eff (s_field_pt rfl Tryd.underlying23 rfl ti3 rfl rfl rfl) rfl)) ?_
          refine rg_put (d := 29) (v := .d (.fl (.int .i64 c.cents))) rfl (og rfl (op_load_pt rfl Tryd.underlying3 rfl rfl rfl rfl rfl)) ?_
          refine rg_put (d := 30) (v := .d (.fl (.bool ((decide (c.cents < 0)))))) rfl (og rfl (op_bin rfl rfl rfl (b_lss _ _ _ _) rfl)) ?_
          refine rg_put (d := 31) (v := .d (.fl (.bool ((decide (c.cents < 0)))))) rfl (og rfl (op_move rfl rfl rfl)) ?_
          rcases fot ((decide (c.cents < 0))) with h30 | h30
          · skip
            have h31 := f_dec h30
            refine rg_put (d := 32) (v := .pt 101 3) rfl (oy rfl rfl rfl h30 (of_eff (s_field_pt rfl Tryd.underlying23 rfl ti3 rfl rfl rfl) rfl)) ?_
            refine rg_put (d := 33) (v := .d (.fl (.int .i64 c.cents))) rfl (oy rfl rfl rfl h30 (op_load_pt rfl Tryd.underlying3 rfl rfl rfl rfl rfl)) ?_
            refine rg_put (d := 34) (v := .d (.fl (.bool (fitB c.cents)))) rfl (oy rfl rfl rfl h30 (op_call rfl Tryd.func16 nm16 rfl (.cons rfl (.d _) .nil) (fit16 c.cents) rfl)) ?_
            refine rg_put (d := 35) (v := .d (.fl (.bool ((!(fitB c.cents)))))) rfl (oy rfl rfl rfl h30 (op_un rfl rfl (u_not _) rfl)) ?_
            refine rg_put (d := 36) (v := .d (.fl (.bool ((!(fitB c.cents)))))) rfl (og rfl (op_pick rfl rfl (by rw [h30]; rfl) rfl)) ?_
            refine rg_put (d := 27) (v := .d (.fl (.bool ((!(fitB c.cents)))))) rfl (og rfl (op_assign rfl rfl rfl)) ?_
            refine rg_done rfl ?_
            refine a_cond rfl (fun h32 => ?_) (fun h32 => ?_)
            · skip
              have h33 := t_not h32
              refine a_rseq ?_
              refine rg_put (d := 2) (v := .d (.fl (.int .i64 13))) rfl (og rfl (op_assign rfl rfl rfl)) ?_
              refine rg_done rfl ?_
              refine a_ret ?_
              show ∃ ds, ResL _ _ _ ds ∧ RV.of ds = _
              refine ⟨[.fl (.int .i64 13)], (.cons (.tmp rfl (.d _)) .nil), ?_⟩
              have ham : amo c.cents = false := by rw [Bool.eq_false_iff]; intro h; have h2 := amo_t h; have h3 := h33; rw [show fitB c.cents = true by simp [fitB]; omega] at h3; cases h3
              first
                | (have hu : ck c = 13 := by unfold ck; simp only [h1, h3, h4, h24, h25, h27, h28, h30, h32, h33, ham, Bool.true_or, Bool.false_or, Bool.or_true, Bool.or_false, Bool.not_true, Bool.not_false, cond_true, cond_false, Bool.true_and, Bool.false_and, Bool.and_true, Bool.and_false] <;> rfl
                   rw [hu]; rfl)
                | (exfalso; omega)
            · skip
              have h34 := f_not h32
              refine a_skip ?_
              show A _ _ _ _ _ _ _
              refine a_rseq ?_
              refine rg_put (d := 2) (v := .d (.fl (.int .i64 0))) rfl (og rfl (op_assign rfl rfl rfl)) ?_
              refine rg_done rfl ?_
              refine a_ret ?_
              show ∃ ds, ResL _ _ _ ds ∧ RV.of ds = _
              refine ⟨[.fl (.int .i64 0)], (.cons (.tmp rfl (.d _)) .nil), ?_⟩
              have ham : amo c.cents = true := by have := h34; simp [fitB] at this; simp [amo]; omega
              first
                | (have hu : ck c = 0 := by unfold ck; simp only [h1, h3, h4, h24, h25, h27, h28, h30, h32, h34, ham, Bool.true_or, Bool.false_or, Bool.or_true, Bool.or_false, Bool.not_true, Bool.not_false, cond_true, cond_false, Bool.true_and, Bool.false_and, Bool.and_true, Bool.and_false] <;> rfl
                   rw [hu]; rfl)
                | (exfalso; omega)
          · skip
            have h35 := t_dec h30
            refine rg_put (d := 32) (v := .d (.fl undef)) rfl (on rfl rfl rfl h30) ?_
            refine rg_put (d := 33) (v := .d (.fl undef)) rfl (on rfl rfl rfl h30) ?_
            refine rg_put (d := 34) (v := .d (.fl undef)) rfl (on rfl rfl rfl h30) ?_
            refine rg_put (d := 35) (v := .d (.fl undef)) rfl (on rfl rfl rfl h30) ?_
            refine rg_put (d := 36) (v := .d (.fl (.bool true))) rfl (og rfl (op_pick rfl rfl (by rw [h30]; rfl) rfl)) ?_
            refine rg_put (d := 27) (v := .d (.fl (.bool true))) rfl (og rfl (op_assign rfl rfl rfl)) ?_
            refine rg_done rfl ?_
            refine a_condK rfl rfl ?_
            refine a_rseq ?_
            refine rg_put (d := 2) (v := .d (.fl (.int .i64 13))) rfl (og rfl (op_assign rfl rfl rfl)) ?_
            refine rg_done rfl ?_
            refine a_ret ?_
            show ∃ ds, ResL _ _ _ ds ∧ RV.of ds = _
            refine ⟨[.fl (.int .i64 13)], (.cons (.tmp rfl (.d _)) .nil), ?_⟩
            have ham : amo c.cents = false := by rw [Bool.eq_false_iff]; intro h; have := amo_t h; omega
            first
              | (have hu : ck c = 13 := by unfold ck; simp only [h1, h3, h4, h24, h25, h27, h28, h30, ham, Bool.true_or, Bool.false_or, Bool.or_true, Bool.or_false, Bool.not_true, Bool.not_false, cond_true, cond_false, Bool.true_and, Bool.false_and, Bool.and_true, Bool.and_false] <;> rfl
                 rw [hu]; rfl)
              | (exfalso; omega)
        · skip
          have h36 := t_bne h28
          refine rg_put (d := 23) (v := .pt 101 2) rfl (oy rfl rfl rfl h28 (of_eff (s_field_pt rfl Tryd.underlying23 rfl ti3 rfl rfl rfl) rfl)) ?_
          refine rg_put (d := 24) (v := .d (.fl (.int .i64 c.days))) rfl (oy rfl rfl rfl h28 (op_load_pt rfl Tryd.underlying3 rfl rfl rfl rfl rfl)) ?_
          refine rg_put (d := 25) (v := .d (.fl (.bool (c.days != 1)))) rfl (oy rfl rfl rfl h28 (op_bin rfl rfl rfl (b_neq _ _ _ _) rfl)) ?_
          refine rg_put (d := 26) (v := .d (.fl (.bool (c.days != 1)))) rfl (og rfl (op_pick rfl rfl (by rw [h28]; rfl) rfl)) ?_
          refine rg_put (d := 18) (v := .d (.fl (.bool (c.days != 1)))) rfl (og rfl (op_assign rfl rfl rfl)) ?_
          refine rg_done rfl ?_
          refine a_cond rfl (fun h37 => ?_) (fun h37 => ?_)
          · skip
            have h38 := t_bne h37
            refine a_rseq ?_
            refine rg_put (d := 2) (v := .d (.fl (.int .i64 1))) rfl (og rfl (op_assign rfl rfl rfl)) ?_
            refine rg_done rfl ?_
            refine a_ret ?_
            show ∃ ds, ResL _ _ _ ds ∧ RV.of ds = _
            refine ⟨[.fl (.int .i64 1)], (.cons (.tmp rfl (.d _)) .nil), ?_⟩
            first
              | (have hu : ck c = 1 := by unfold ck; simp only [h1, h3, h4, h24, h25, h27, h28, h37, Bool.true_or, Bool.false_or, Bool.or_true, Bool.or_false, Bool.not_true, Bool.not_false, cond_true, cond_false, Bool.true_and, Bool.false_and, Bool.and_true, Bool.and_false] <;> rfl
                 rw [hu]; rfl)
              | (exfalso; omega)
          · skip
            have h39 := f_bne h37
            refine a_rseq ?_
            refine rg_put (d := 28) (v := .pt 101 3) rfl (og rfl (of_eff (s_field_pt rfl Tryd.underlying23 rfl ti3 rfl rfl rfl) rfl)) ?_
            refine rg_put (d := 29) (v := .d (.fl (.int .i64 c.cents))) rfl (og rfl (op_load_pt rfl Tryd.underlying3 rfl rfl rfl rfl rfl)) ?_
            refine rg_put (d := 30) (v := .d (.fl (.bool ((decide (c.cents < 0)))))) rfl (og rfl (op_bin rfl rfl rfl (b_lss _ _ _ _) rfl)) ?_
            refine rg_put (d := 31) (v := .d (.fl (.bool ((decide (c.cents < 0)))))) rfl (og rfl (op_move rfl rfl rfl)) ?_
            rcases fot ((decide (c.cents < 0))) with h40 | h40
            · skip
              have h41 := f_dec h40
              refine rg_put (d := 32) (v := .pt 101 3) rfl (oy rfl rfl rfl h40 (of_eff (s_field_pt rfl Tryd.underlying23 rfl ti3 rfl rfl rfl) rfl)) ?_
              refine rg_put (d := 33) (v := .d (.fl (.int .i64 c.cents))) rfl (oy rfl rfl rfl h40 (op_load_pt rfl Tryd.underlying3 rfl rfl rfl rfl rfl)) ?_
              refine rg_put (d := 34) (v := .d (.fl (.bool (fitB c.cents)))) rfl (oy rfl rfl rfl h40 (op_call rfl Tryd.func16 nm16 rfl (.cons rfl (.d _) .nil) (fit16 c.cents) rfl)) ?_
              refine rg_put (d := 35) (v := .d (.fl (.bool ((!(fitB c.cents)))))) rfl (oy rfl rfl rfl h40 (op_un rfl rfl (u_not _) rfl)) ?_
              refine rg_put (d := 36) (v := .d (.fl (.bool ((!(fitB c.cents)))))) rfl (og rfl (op_pick rfl rfl (by rw [h40]; rfl) rfl)) ?_
              refine rg_put (d := 27) (v := .d (.fl (.bool ((!(fitB c.cents)))))) rfl (og rfl (op_assign rfl rfl rfl)) ?_
              refine rg_done rfl ?_
              refine a_cond rfl (fun h42 => ?_) (fun h42 => ?_)
              · skip
                have h43 := t_not h42
                refine a_rseq ?_
                refine rg_put (d := 2) (v := .d (.fl (.int .i64 13))) rfl (og rfl (op_assign rfl rfl rfl)) ?_
                refine rg_done rfl ?_
                refine a_ret ?_
                show ∃ ds, ResL _ _ _ ds ∧ RV.of ds = _
                refine ⟨[.fl (.int .i64 13)], (.cons (.tmp rfl (.d _)) .nil), ?_⟩
                have ham : amo c.cents = false := by rw [Bool.eq_false_iff]; intro h; have h2 := amo_t h; have h3 := h43; rw [show fitB c.cents = true by simp [fitB]; omega] at h3; cases h3
                first
                  | (have hu : ck c = 13 := by unfold ck; simp only [h1, h3, h4, h24, h25, h27, h28, h37, h40, h42, h43, ham, Bool.true_or, Bool.false_or, Bool.or_true, Bool.or_false, Bool.not_true, Bool.not_false, cond_true, cond_false, Bool.true_and, Bool.false_and, Bool.and_true, Bool.and_false] <;> rfl
                     rw [hu]; rfl)
                  | (exfalso; omega)
              · skip
                have h44 := f_not h42
                refine a_skip ?_
                show A _ _ _ _ _ _ _
                refine a_rseq ?_
                refine rg_put (d := 2) (v := .d (.fl (.int .i64 0))) rfl (og rfl (op_assign rfl rfl rfl)) ?_
                refine rg_done rfl ?_
                refine a_ret ?_
                show ∃ ds, ResL _ _ _ ds ∧ RV.of ds = _
                refine ⟨[.fl (.int .i64 0)], (.cons (.tmp rfl (.d _)) .nil), ?_⟩
                have ham : amo c.cents = true := by have := h44; simp [fitB] at this; simp [amo]; omega
                first
                  | (have hu : ck c = 0 := by unfold ck; simp only [h1, h3, h4, h24, h25, h27, h28, h37, h40, h42, h44, ham, Bool.true_or, Bool.false_or, Bool.or_true, Bool.or_false, Bool.not_true, Bool.not_false, cond_true, cond_false, Bool.true_and, Bool.false_and, Bool.and_true, Bool.and_false] <;> rfl
                     rw [hu]; rfl)
                  | (exfalso; omega)
            · skip
              have h45 := t_dec h40
              refine rg_put (d := 32) (v := .d (.fl undef)) rfl (on rfl rfl rfl h40) ?_
              refine rg_put (d := 33) (v := .d (.fl undef)) rfl (on rfl rfl rfl h40) ?_
              refine rg_put (d := 34) (v := .d (.fl undef)) rfl (on rfl rfl rfl h40) ?_
              refine rg_put (d := 35) (v := .d (.fl undef)) rfl (on rfl rfl rfl h40) ?_
              refine rg_put (d := 36) (v := .d (.fl (.bool true))) rfl (og rfl (op_pick rfl rfl (by rw [h40]; rfl) rfl)) ?_
              refine rg_put (d := 27) (v := .d (.fl (.bool true))) rfl (og rfl (op_assign rfl rfl rfl)) ?_
              refine rg_done rfl ?_
              refine a_condK rfl rfl ?_
              refine a_rseq ?_
              refine rg_put (d := 2) (v := .d (.fl (.int .i64 13))) rfl (og rfl (op_assign rfl rfl rfl)) ?_
              refine rg_done rfl ?_
              refine a_ret ?_
              show ∃ ds, ResL _ _ _ ds ∧ RV.of ds = _
              refine ⟨[.fl (.int .i64 13)], (.cons (.tmp rfl (.d _)) .nil), ?_⟩
              have ham : amo c.cents = false := by rw [Bool.eq_false_iff]; intro h; have := amo_t h; omega
              first
                | (have hu : ck c = 13 := by unfold ck; simp only [h1, h3, h4, h24, h25, h27, h28, h37, h40, ham, Bool.true_or, Bool.false_or, Bool.or_true, Bool.or_false, Bool.not_true, Bool.not_false, cond_true, cond_false, Bool.true_and, Bool.false_and, Bool.and_true, Bool.and_false] <;> rfl
                   rw [hu]; rfl)
                | (exfalso; omega)
set_option maxHeartbeats 4000000 in
set_option maxRecDepth 100000 in
theorem ck6 (c : Ca) : Ctr Tryd.prog 6 [.ag (eCa c)] (.d (.fl (.int .i64 (ck c)))) := by
  refine ctr (n := 30) (rs := #[.tmp 2]) (L := [(0, .d (.ag (eCa c)))]) Tryd.func6 rfl rfl rfl rfl rfl (fun w0 U0 => ?_)
  refine a_rseq ?_
  refine rg_nam (d := 1) (v := .pt 101 0) (m := 101) (nw := [(101, .bx 23 (eCa c))]) rfl (og rfl (of_eff (op_box 101 rfl rfl rfl rfl) rfl)) rfl ?_
  refine rg_put (d := 2) (v := .d (.fl (.int .i64 0))) rfl (og rfl (op_assign rfl rfl rfl)) ?_
  refine rg_done rfl ?_
  refine a_seq ?_
  refine a_rseq ?_
  refine rg_put (d := 3) (v := .pt 101 0) rfl (og rfl (of_eff (s_field_pt rfl Tryd.underlying23 rfl ti9 rfl rfl rfl) rfl)) ?_
  refine rg_put (d := 4) (v := .d (.fl (.string c.name))) rfl (og rfl (op_load_pt rfl Tryd.underlying9 rfl rfl rfl rfl rfl)) ?_
  refine rg_put (d := 5) (v := .d (.fl (.bool (Nm.nmB c.name)))) rfl (og rfl (op_call rfl Tryd.func17 nm17 rfl (.cons rfl (.d _) .nil) (nam17 c.name) rfl)) ?_
  refine rg_put (d := 6) (v := .d (.fl (.bool ((!(Nm.nmB c.name)))))) rfl (og rfl (op_un rfl rfl (u_not _) rfl)) ?_
  refine rg_put (d := 7) (v := .d (.fl (.bool ((!(Nm.nmB c.name)))))) rfl (og rfl (op_move rfl rfl rfl)) ?_
  rcases fot ((!(Nm.nmB c.name))) with h1 | h1
  · skip
    have h2 := f_not h1
    refine rg_put (d := 8) (v := .pt 101 1) rfl (oy rfl rfl rfl h1 (of_eff (s_field_pt rfl Tryd.underlying23 rfl ti9 rfl rfl rfl) rfl)) ?_
    refine rg_put (d := 9) (v := .d (.fl (.string c.sys))) rfl (oy rfl rfl rfl h1 (op_load_pt rfl Tryd.underlying9 rfl rfl rfl rfl rfl)) ?_
    refine rg_put (d := 10) (v := .d (.fl (.bool ((!(sEq c.sys (⟨#[]⟩))))))) rfl (oy rfl rfl rfl h1 (op_bin rfl rfl rfl (b_sne _ _ _) rfl)) ?_
    refine rg_put (d := 11) (v := .d (.fl (.bool ((!(sEq c.sys (⟨#[]⟩))))))) rfl (oy rfl rfl rfl h1 (op_move rfl rfl rfl)) ?_
    rcases fot ((!(sEq c.sys (⟨#[]⟩)))) with h3 | h3
    · skip
      have h4 := f_not h3
      refine rg_put (d := 12) (v := .d (.fl undef)) rfl (on rfl rfl rfl h3) ?_
      refine rg_put (d := 13) (v := .d (.fl undef)) rfl (on rfl rfl rfl h3) ?_
      refine rg_put (d := 14) (v := .d (.fl undef)) rfl (on rfl rfl rfl h3) ?_
      refine rg_put (d := 15) (v := .d (.fl undef)) rfl (on rfl rfl rfl h3) ?_
      refine rg_put (d := 16) (v := .d (.fl (.bool false))) rfl (oy rfl rfl rfl h1 (op_pick rfl rfl (by rw [h3]; rfl) rfl)) ?_
      refine rg_put (d := 17) (v := .d (.fl (.bool false))) rfl (og rfl (op_pick rfl rfl (by rw [h1]; rfl) rfl)) ?_
      refine rg_done rfl ?_
      refine a_condF rfl rfl ?_
      refine a_skip ?_
      show A _ _ _ _ _ _ _
      refine a_seq ?_
      refine a_rseq ?_
      refine rg_put (d := 18) (v := .pt 101 2) rfl (og rfl (of_eff (s_field_pt rfl Tryd.underlying23 rfl ti3 rfl rfl rfl) rfl)) ?_
      refine rg_put (d := 19) (v := .d (.fl (.int .i64 c.days))) rfl (og rfl (op_load_pt rfl Tryd.underlying3 rfl rfl rfl rfl rfl)) ?_
      refine rg_put (d := 20) (v := .d (.fl (.bool (c.days != 0)))) rfl (og rfl (op_bin rfl rfl rfl (b_neq _ _ _ _) rfl)) ?_
      refine rg_put (d := 21) (v := .d (.fl (.bool (c.days != 0)))) rfl (og rfl (op_move rfl rfl rfl)) ?_
      rcases fot (c.days != 0) with h5 | h5
      · skip
        have h6 := f_bne h5
        refine rg_put (d := 22) (v := .d (.fl undef)) rfl (on rfl rfl rfl h5) ?_
        refine rg_put (d := 23) (v := .d (.fl undef)) rfl (on rfl rfl rfl h5) ?_
        refine rg_put (d := 24) (v := .d (.fl undef)) rfl (on rfl rfl rfl h5) ?_
        refine rg_put (d := 25) (v := .d (.fl (.bool false))) rfl (og rfl (op_pick rfl rfl (by rw [h5]; rfl) rfl)) ?_
        refine rg_done rfl ?_
        refine a_condF rfl rfl ?_
        refine a_skip ?_
        show A _ _ _ _ _ _ _
        refine a_seq ?_
        refine a_rseq ?_
        refine rg_put (d := 26) (v := .pt 101 3) rfl (og rfl (of_eff (s_field_pt rfl Tryd.underlying23 rfl ti3 rfl rfl rfl) rfl)) ?_
        refine rg_put (d := 27) (v := .d (.fl (.int .i64 c.cents))) rfl (og rfl (op_load_pt rfl Tryd.underlying3 rfl rfl rfl rfl rfl)) ?_
        refine rg_put (d := 28) (v := .d (.fl (.bool (amo c.cents)))) rfl (og rfl (op_call rfl Tryd.func18 nm18 rfl (.cons rfl (.d _) .nil) (amo18 c.cents) rfl)) ?_
        refine rg_put (d := 29) (v := .d (.fl (.bool ((!(amo c.cents)))))) rfl (og rfl (op_un rfl rfl (u_not _) rfl)) ?_
        refine rg_done rfl ?_
        refine a_cond rfl (fun h7 => ?_) (fun h7 => ?_)
        · skip
          have h8 := t_not h7
          refine a_rseq ?_
          refine rg_put (d := 2) (v := .d (.fl (.int .i64 13))) rfl (og rfl (op_assign rfl rfl rfl)) ?_
          refine rg_done rfl ?_
          refine a_ret ?_
          show ∃ ds, ResL _ _ _ ds ∧ RV.of ds = _
          refine ⟨[.fl (.int .i64 13)], (.cons (.tmp rfl (.d _)) .nil), ?_⟩
          first
            | (have hu : ck c = 13 := by
                unfold ck; simp only [h1, h2, h3, h4, h5, h7, h8, Bool.true_or, Bool.false_or, Bool.or_true, Bool.or_false, Bool.not_true, Bool.not_false, cond_true, cond_false, Bool.true_and, Bool.false_and, Bool.and_true, Bool.and_false] <;> rfl
               rw [hu]; rfl)
            | (exfalso; omega)
        · skip
          have h9 := f_not h7
          refine a_skip ?_
          show A _ _ _ _ _ _ _
          refine a_rseq ?_
          refine rg_put (d := 2) (v := .d (.fl (.int .i64 0))) rfl (og rfl (op_assign rfl rfl rfl)) ?_
          refine rg_done rfl ?_
          refine a_ret ?_
          show ∃ ds, ResL _ _ _ ds ∧ RV.of ds = _
          refine ⟨[.fl (.int .i64 0)], (.cons (.tmp rfl (.d _)) .nil), ?_⟩
          first
            | (have hu : ck c = 0 := by
                unfold ck; simp only [h1, h2, h3, h4, h5, h7, h9, Bool.true_or, Bool.false_or, Bool.or_true, Bool.or_false, Bool.not_true, Bool.not_false, cond_true, cond_false, Bool.true_and, Bool.false_and, Bool.and_true, Bool.and_false] <;> rfl
               rw [hu]; rfl)
            | (exfalso; omega)
      · skip
        have h10 := t_bne h5
        refine rg_put (d := 22) (v := .pt 101 2) rfl (oy rfl rfl rfl h5 (of_eff (s_field_pt rfl Tryd.underlying23 rfl ti3 rfl rfl rfl) rfl)) ?_
        refine rg_put (d := 23) (v := .d (.fl (.int .i64 c.days))) rfl (oy rfl rfl rfl h5 (op_load_pt rfl Tryd.underlying3 rfl rfl rfl rfl rfl)) ?_
        refine rg_put (d := 24) (v := .d (.fl (.bool (c.days != 1)))) rfl (oy rfl rfl rfl h5 (op_bin rfl rfl rfl (b_neq _ _ _ _) rfl)) ?_
        refine rg_put (d := 25) (v := .d (.fl (.bool (c.days != 1)))) rfl (og rfl (op_pick rfl rfl (by rw [h5]; rfl) rfl)) ?_
        refine rg_done rfl ?_
        refine a_cond rfl (fun h11 => ?_) (fun h11 => ?_)
        · skip
          have h12 := t_bne h11
          refine a_rseq ?_
          refine rg_put (d := 2) (v := .d (.fl (.int .i64 1))) rfl (og rfl (op_assign rfl rfl rfl)) ?_
          refine rg_done rfl ?_
          refine a_ret ?_
          show ∃ ds, ResL _ _ _ ds ∧ RV.of ds = _
          refine ⟨[.fl (.int .i64 1)], (.cons (.tmp rfl (.d _)) .nil), ?_⟩
          first
            | (have hu : ck c = 1 := by
                unfold ck; simp only [h1, h2, h3, h4, h5, h11, Bool.true_or, Bool.false_or, Bool.or_true, Bool.or_false, Bool.not_true, Bool.not_false, cond_true, cond_false, Bool.true_and, Bool.false_and, Bool.and_true, Bool.and_false] <;> rfl
               rw [hu]; rfl)
            | (exfalso; omega)
        · skip
          have h13 := f_bne h11
          refine a_skip ?_
          show A _ _ _ _ _ _ _
          refine a_seq ?_
          refine a_rseq ?_
          refine rg_put (d := 26) (v := .pt 101 3) rfl (og rfl (of_eff (s_field_pt rfl Tryd.underlying23 rfl ti3 rfl rfl rfl) rfl)) ?_
          refine rg_put (d := 27) (v := .d (.fl (.int .i64 c.cents))) rfl (og rfl (op_load_pt rfl Tryd.underlying3 rfl rfl rfl rfl rfl)) ?_
          refine rg_put (d := 28) (v := .d (.fl (.bool (amo c.cents)))) rfl (og rfl (op_call rfl Tryd.func18 nm18 rfl (.cons rfl (.d _) .nil) (amo18 c.cents) rfl)) ?_
          refine rg_put (d := 29) (v := .d (.fl (.bool ((!(amo c.cents)))))) rfl (og rfl (op_un rfl rfl (u_not _) rfl)) ?_
          refine rg_done rfl ?_
          refine a_cond rfl (fun h14 => ?_) (fun h14 => ?_)
          · skip
            have h15 := t_not h14
            refine a_rseq ?_
            refine rg_put (d := 2) (v := .d (.fl (.int .i64 13))) rfl (og rfl (op_assign rfl rfl rfl)) ?_
            refine rg_done rfl ?_
            refine a_ret ?_
            show ∃ ds, ResL _ _ _ ds ∧ RV.of ds = _
            refine ⟨[.fl (.int .i64 13)], (.cons (.tmp rfl (.d _)) .nil), ?_⟩
            first
              | (have hu : ck c = 13 := by
                  unfold ck; simp only [h1, h2, h3, h4, h5, h11, h14, h15, Bool.true_or, Bool.false_or, Bool.or_true, Bool.or_false, Bool.not_true, Bool.not_false, cond_true, cond_false, Bool.true_and, Bool.false_and, Bool.and_true, Bool.and_false] <;> rfl
                 rw [hu]; rfl)
              | (exfalso; omega)
          · skip
            have h16 := f_not h14
            refine a_skip ?_
            show A _ _ _ _ _ _ _
            refine a_rseq ?_
            refine rg_put (d := 2) (v := .d (.fl (.int .i64 0))) rfl (og rfl (op_assign rfl rfl rfl)) ?_
            refine rg_done rfl ?_
            refine a_ret ?_
            show ∃ ds, ResL _ _ _ ds ∧ RV.of ds = _
            refine ⟨[.fl (.int .i64 0)], (.cons (.tmp rfl (.d _)) .nil), ?_⟩
            first
              | (have hu : ck c = 0 := by
                  unfold ck; simp only [h1, h2, h3, h4, h5, h11, h14, h16, Bool.true_or, Bool.false_or, Bool.or_true, Bool.or_false, Bool.not_true, Bool.not_false, cond_true, cond_false, Bool.true_and, Bool.false_and, Bool.and_true, Bool.and_false] <;> rfl
                 rw [hu]; rfl)
              | (exfalso; omega)
    · skip
      have h17 := t_not h3
      refine rg_put (d := 12) (v := .pt 101 1) rfl (oy rfl rfl rfl h3 (of_eff (s_field_pt rfl Tryd.underlying23 rfl ti9 rfl rfl rfl) rfl)) ?_
      refine rg_put (d := 13) (v := .d (.fl (.string c.sys))) rfl (oy rfl rfl rfl h3 (op_load_pt rfl Tryd.underlying9 rfl rfl rfl rfl rfl)) ?_
      refine rg_put (d := 14) (v := .d (.fl (.bool (Nm.nmB c.sys)))) rfl (oy rfl rfl rfl h3 (op_call rfl Tryd.func17 nm17 rfl (.cons rfl (.d _) .nil) (nam17 c.sys) rfl)) ?_
      refine rg_put (d := 15) (v := .d (.fl (.bool ((!(Nm.nmB c.sys)))))) rfl (oy rfl rfl rfl h3 (op_un rfl rfl (u_not _) rfl)) ?_
      refine rg_put (d := 16) (v := .d (.fl (.bool ((!(Nm.nmB c.sys)))))) rfl (oy rfl rfl rfl h1 (op_pick rfl rfl (by rw [h3]; rfl) rfl)) ?_
      refine rg_put (d := 17) (v := .d (.fl (.bool ((!(Nm.nmB c.sys)))))) rfl (og rfl (op_pick rfl rfl (by rw [h1]; rfl) rfl)) ?_
      refine rg_done rfl ?_
      refine a_cond rfl (fun h18 => ?_) (fun h18 => ?_)
      · skip
        have h19 := t_not h18
        refine a_rseq ?_
        refine rg_put (d := 2) (v := .d (.fl (.int .i64 6))) rfl (og rfl (op_assign rfl rfl rfl)) ?_
        refine rg_done rfl ?_
        refine a_ret ?_
        show ∃ ds, ResL _ _ _ ds ∧ RV.of ds = _
        refine ⟨[.fl (.int .i64 6)], (.cons (.tmp rfl (.d _)) .nil), ?_⟩
        first
          | (have hu : ck c = 6 := by
              unfold ck; simp only [h1, h2, h3, h17, h18, h19, Bool.true_or, Bool.false_or, Bool.or_true, Bool.or_false, Bool.not_true, Bool.not_false, cond_true, cond_false, Bool.true_and, Bool.false_and, Bool.and_true, Bool.and_false] <;> rfl
             rw [hu]; rfl)
          | (exfalso; omega)
      · skip
        have h20 := f_not h18
        refine a_skip ?_
        show A _ _ _ _ _ _ _
        refine a_seq ?_
        refine a_rseq ?_
        refine rg_put (d := 18) (v := .pt 101 2) rfl (og rfl (of_eff (s_field_pt rfl Tryd.underlying23 rfl ti3 rfl rfl rfl) rfl)) ?_
        refine rg_put (d := 19) (v := .d (.fl (.int .i64 c.days))) rfl (og rfl (op_load_pt rfl Tryd.underlying3 rfl rfl rfl rfl rfl)) ?_
        refine rg_put (d := 20) (v := .d (.fl (.bool (c.days != 0)))) rfl (og rfl (op_bin rfl rfl rfl (b_neq _ _ _ _) rfl)) ?_
        refine rg_put (d := 21) (v := .d (.fl (.bool (c.days != 0)))) rfl (og rfl (op_move rfl rfl rfl)) ?_
        rcases fot (c.days != 0) with h21 | h21
        · skip
          have h22 := f_bne h21
          refine rg_put (d := 22) (v := .d (.fl undef)) rfl (on rfl rfl rfl h21) ?_
          refine rg_put (d := 23) (v := .d (.fl undef)) rfl (on rfl rfl rfl h21) ?_
          refine rg_put (d := 24) (v := .d (.fl undef)) rfl (on rfl rfl rfl h21) ?_
          refine rg_put (d := 25) (v := .d (.fl (.bool false))) rfl (og rfl (op_pick rfl rfl (by rw [h21]; rfl) rfl)) ?_
          refine rg_done rfl ?_
          refine a_condF rfl rfl ?_
          refine a_skip ?_
          show A _ _ _ _ _ _ _
          refine a_seq ?_
          refine a_rseq ?_
          refine rg_put (d := 26) (v := .pt 101 3) rfl (og rfl (of_eff (s_field_pt rfl Tryd.underlying23 rfl ti3 rfl rfl rfl) rfl)) ?_
          refine rg_put (d := 27) (v := .d (.fl (.int .i64 c.cents))) rfl (og rfl (op_load_pt rfl Tryd.underlying3 rfl rfl rfl rfl rfl)) ?_
          refine rg_put (d := 28) (v := .d (.fl (.bool (amo c.cents)))) rfl (og rfl (op_call rfl Tryd.func18 nm18 rfl (.cons rfl (.d _) .nil) (amo18 c.cents) rfl)) ?_
          refine rg_put (d := 29) (v := .d (.fl (.bool ((!(amo c.cents)))))) rfl (og rfl (op_un rfl rfl (u_not _) rfl)) ?_
          refine rg_done rfl ?_
          refine a_cond rfl (fun h23 => ?_) (fun h23 => ?_)
          · skip
            have h24 := t_not h23
            refine a_rseq ?_
            refine rg_put (d := 2) (v := .d (.fl (.int .i64 13))) rfl (og rfl (op_assign rfl rfl rfl)) ?_
            refine rg_done rfl ?_
            refine a_ret ?_
            show ∃ ds, ResL _ _ _ ds ∧ RV.of ds = _
            refine ⟨[.fl (.int .i64 13)], (.cons (.tmp rfl (.d _)) .nil), ?_⟩
            first
              | (have hu : ck c = 13 := by
                  unfold ck; simp only [h1, h2, h3, h17, h18, h20, h21, h23, h24, Bool.true_or, Bool.false_or, Bool.or_true, Bool.or_false, Bool.not_true, Bool.not_false, cond_true, cond_false, Bool.true_and, Bool.false_and, Bool.and_true, Bool.and_false] <;> rfl
                 rw [hu]; rfl)
              | (exfalso; omega)
          · skip
            have h25 := f_not h23
            refine a_skip ?_
            show A _ _ _ _ _ _ _
            refine a_rseq ?_
            refine rg_put (d := 2) (v := .d (.fl (.int .i64 0))) rfl (og rfl (op_assign rfl rfl rfl)) ?_
            refine rg_done rfl ?_
            refine a_ret ?_
            show ∃ ds, ResL _ _ _ ds ∧ RV.of ds = _
            refine ⟨[.fl (.int .i64 0)], (.cons (.tmp rfl (.d _)) .nil), ?_⟩
            first
              | (have hu : ck c = 0 := by
                  unfold ck; simp only [h1, h2, h3, h17, h18, h20, h21, h23, h25, Bool.true_or, Bool.false_or, Bool.or_true, Bool.or_false, Bool.not_true, Bool.not_false, cond_true, cond_false, Bool.true_and, Bool.false_and, Bool.and_true, Bool.and_false] <;> rfl
                 rw [hu]; rfl)
              | (exfalso; omega)
        · skip
          have h26 := t_bne h21
          refine rg_put (d := 22) (v := .pt 101 2) rfl (oy rfl rfl rfl h21 (of_eff (s_field_pt rfl Tryd.underlying23 rfl ti3 rfl rfl rfl) rfl)) ?_
          refine rg_put (d := 23) (v := .d (.fl (.int .i64 c.days))) rfl (oy rfl rfl rfl h21 (op_load_pt rfl Tryd.underlying3 rfl rfl rfl rfl rfl)) ?_
          refine rg_put (d := 24) (v := .d (.fl (.bool (c.days != 1)))) rfl (oy rfl rfl rfl h21 (op_bin rfl rfl rfl (b_neq _ _ _ _) rfl)) ?_
          refine rg_put (d := 25) (v := .d (.fl (.bool (c.days != 1)))) rfl (og rfl (op_pick rfl rfl (by rw [h21]; rfl) rfl)) ?_
          refine rg_done rfl ?_
          refine a_cond rfl (fun h27 => ?_) (fun h27 => ?_)
          · skip
            have h28 := t_bne h27
            refine a_rseq ?_
            refine rg_put (d := 2) (v := .d (.fl (.int .i64 1))) rfl (og rfl (op_assign rfl rfl rfl)) ?_
            refine rg_done rfl ?_
            refine a_ret ?_
            show ∃ ds, ResL _ _ _ ds ∧ RV.of ds = _
            refine ⟨[.fl (.int .i64 1)], (.cons (.tmp rfl (.d _)) .nil), ?_⟩
            first
              | (have hu : ck c = 1 := by
                  unfold ck; simp only [h1, h2, h3, h17, h18, h20, h21, h27, Bool.true_or, Bool.false_or, Bool.or_true, Bool.or_false, Bool.not_true, Bool.not_false, cond_true, cond_false, Bool.true_and, Bool.false_and, Bool.and_true, Bool.and_false] <;> rfl
                 rw [hu]; rfl)
              | (exfalso; omega)
          · skip
            have h29 := f_bne h27
            refine a_skip ?_
            show A _ _ _ _ _ _ _
            refine a_seq ?_
            refine a_rseq ?_
            refine rg_put (d := 26) (v := .pt 101 3) rfl (og rfl (of_eff (s_field_pt rfl Tryd.underlying23 rfl ti3 rfl rfl rfl) rfl)) ?_
            refine rg_put (d := 27) (v := .d (.fl (.int .i64 c.cents))) rfl (og rfl (op_load_pt rfl Tryd.underlying3 rfl rfl rfl rfl rfl)) ?_
            refine rg_put (d := 28) (v := .d (.fl (.bool (amo c.cents)))) rfl (og rfl (op_call rfl Tryd.func18 nm18 rfl (.cons rfl (.d _) .nil) (amo18 c.cents) rfl)) ?_
            refine rg_put (d := 29) (v := .d (.fl (.bool ((!(amo c.cents)))))) rfl (og rfl (op_un rfl rfl (u_not _) rfl)) ?_
            refine rg_done rfl ?_
            refine a_cond rfl (fun h30 => ?_) (fun h30 => ?_)
            · skip
              have h31 := t_not h30
              refine a_rseq ?_
              refine rg_put (d := 2) (v := .d (.fl (.int .i64 13))) rfl (og rfl (op_assign rfl rfl rfl)) ?_
              refine rg_done rfl ?_
              refine a_ret ?_
              show ∃ ds, ResL _ _ _ ds ∧ RV.of ds = _
              refine ⟨[.fl (.int .i64 13)], (.cons (.tmp rfl (.d _)) .nil), ?_⟩
              first
                | (have hu : ck c = 13 := by
                    unfold ck; simp only [h1, h2, h3, h17, h18, h20, h21, h27, h30, h31, Bool.true_or, Bool.false_or, Bool.or_true, Bool.or_false, Bool.not_true, Bool.not_false, cond_true, cond_false, Bool.true_and, Bool.false_and, Bool.and_true, Bool.and_false] <;> rfl
                   rw [hu]; rfl)
                | (exfalso; omega)
            · skip
              have h32 := f_not h30
              refine a_skip ?_
              show A _ _ _ _ _ _ _
              refine a_rseq ?_
              refine rg_put (d := 2) (v := .d (.fl (.int .i64 0))) rfl (og rfl (op_assign rfl rfl rfl)) ?_
              refine rg_done rfl ?_
              refine a_ret ?_
              show ∃ ds, ResL _ _ _ ds ∧ RV.of ds = _
              refine ⟨[.fl (.int .i64 0)], (.cons (.tmp rfl (.d _)) .nil), ?_⟩
              first
                | (have hu : ck c = 0 := by
                    unfold ck; simp only [h1, h2, h3, h17, h18, h20, h21, h27, h30, h32, Bool.true_or, Bool.false_or, Bool.or_true, Bool.or_false, Bool.not_true, Bool.not_false, cond_true, cond_false, Bool.true_and, Bool.false_and, Bool.and_true, Bool.and_false] <;> rfl
                   rw [hu]; rfl)
                | (exfalso; omega)
  · skip
    have h33 := t_not h1
    refine rg_put (d := 8) (v := .d (.fl undef)) rfl (on rfl rfl rfl h1) ?_
    refine rg_put (d := 9) (v := .d (.fl undef)) rfl (on rfl rfl rfl h1) ?_
    refine rg_put (d := 10) (v := .d (.fl undef)) rfl (on rfl rfl rfl h1) ?_
    refine rg_put (d := 11) (v := .d (.fl undef)) rfl (on rfl rfl rfl h1) ?_
    refine rg_put (d := 12) (v := .d (.fl undef)) rfl (ou rfl rfl rfl) ?_
    refine rg_put (d := 13) (v := .d (.fl undef)) rfl (ou rfl rfl rfl) ?_
    refine rg_put (d := 14) (v := .d (.fl undef)) rfl (ou rfl rfl rfl) ?_
    refine rg_put (d := 15) (v := .d (.fl undef)) rfl (ou rfl rfl rfl) ?_
    refine rg_put (d := 16) (v := .d (.fl undef)) rfl (on rfl rfl rfl h1) ?_
    refine rg_put (d := 17) (v := .d (.fl (.bool true))) rfl (og rfl (op_pick rfl rfl (by rw [h1]; rfl) rfl)) ?_
    refine rg_done rfl ?_
    refine a_condK rfl rfl ?_
    refine a_rseq ?_
    refine rg_put (d := 2) (v := .d (.fl (.int .i64 6))) rfl (og rfl (op_assign rfl rfl rfl)) ?_
    refine rg_done rfl ?_
    refine a_ret ?_
    show ∃ ds, ResL _ _ _ ds ∧ RV.of ds = _
    refine ⟨[.fl (.int .i64 6)], (.cons (.tmp rfl (.d _)) .nil), ?_⟩
    first
      | (have hu : ck c = 6 := by
          unfold ck; simp only [h1, h33, Bool.true_or, Bool.false_or, Bool.or_true, Bool.or_false, Bool.not_true, Bool.not_false, cond_true, cond_false, Bool.true_and, Bool.false_and, Bool.and_true, Bool.and_false] <;> rfl
         rw [hu]; rfl)
      | (exfalso; omega)
end Go.Proofs.YteeofplcnnhcnaaDoor.Wk
