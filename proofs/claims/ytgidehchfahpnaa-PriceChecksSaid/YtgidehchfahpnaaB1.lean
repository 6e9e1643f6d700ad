/- Charges: the check, both sides. Condition: at most 100 lines. -/
import Derived.Test.YtgidehchfahpnaaLaid
import Derived.Test.YtgidehchfahpnaaTy
set_option linter.unusedSimpArgs false
set_option linter.unusedVariables false
namespace Go.Proofs.Ytgidehchfahpnaa.Wk
open Go Go.RowKit Go.Proofs.Ytgidehchfahpnaa.Av
theorem ne_self_b (a : Int) : (a != a) = false := by simp
theorem sEq_eq {a b : ByteArray} (h : sEq a b = true) : a = b := of_decide_eq_true h
theorem sEq_of {a b : ByteArray} (h : a = b) : sEq a b = true := decide_eq_true h
theorem nb {b : Bool} (h : ¬ b = true) : b = false := by cases b <;> simp at h ⊢
theorem nnb {b : Bool} (h : ¬ (!b) = true) : b = true := by cases b <;> simp at h ⊢

theorem ix_eq {α : Type} [Inhabited α] {l : List α} {i : Nat} (h : i < l.length) : l[i] = ix l i := by
  have := ix_get h
  rw [List.getElem?_eq_getElem h] at this
  injection this
theorem ix_mem {α : Type} [Inhabited α] {l : List α} {k : Nat} (h : k < l.length) : ix l k ∈ l := by rw [← ix_eq h]; exact List.getElem_mem h
theorem mem_ix {α : Type} [Inhabited α] {l : List α} {x : α} (h : x ∈ l) : ∃ k, k < l.length ∧ ix l k = x := by
  obtain ⟨j, hj, he⟩ := List.mem_iff_getElem.1 h
  exact ⟨j, hj, by rw [← ix_eq hj]; exact he⟩
theorem fnd_no {α : Type} [Inhabited α] {p : α → Bool} {l : List α} (h : ∀ q, q < l.length → p (ix l q) = false) : l.find? p = none := by
  rw [List.find?_eq_none]
  intro x hx
  obtain ⟨k, hk, he⟩ := mem_ix hx
  rw [← he, h k hk]; simp
theorem fnd_at {α : Type} [Inhabited α] {p : α → Bool} {l : List α} {k : Nat} (hk : k < l.length) (h : ∀ q, q < k → p (ix l q) = false) (hp : p (ix l k) = true) : l.find? p = some (ix l k) := by
  rw [List.find?_eq_some_iff_getElem]
  refine ⟨hp, k, hk, ix_eq hk, fun j hj => ?_⟩
  rw [ix_eq (by omega), h j hj]; rfl
theorem any_at {α : Type} [Inhabited α] {p : α → Bool} {l : List α} {k : Nat} (hk : k < l.length) (hp : p (ix l k) = true) : l.any p = true := by
  rw [List.any_eq_true]; exact ⟨_, ix_mem hk, hp⟩
theorem any_no {α : Type} [Inhabited α] {p : α → Bool} {l : List α} (h : ∀ q, q < l.length → p (ix l q) = false) : l.any p = false := by
  rw [List.any_eq_false]
  intro x hx
  obtain ⟨k, hk, he⟩ := mem_ix hx
  rw [← he, h k hk]; simp
theorem all_no {α : Type} [Inhabited α] {p : α → Bool} {l : List α} {k : Nat} (hk : k < l.length) (h : p (ix l k) = false) : l.all p = false := by
  rw [List.all_eq_false]; exact ⟨_, ix_mem hk, by rw [h]; simp⟩
theorem all_yes {α : Type} [Inhabited α] {p : α → Bool} {l : List α} (h : ∀ q, q < l.length → p (ix l q) = true) : l.all p = true := by
  rw [List.all_eq_true]
  intro x hx
  obtain ⟨k, hk, he⟩ := mem_ix hx
  rw [← he]; exact h k hk
def fitB (n : Int) : Bool := decide (-1125899906842624 ≤ n) && decide (n ≤ 1125899906842624)
theorem fit_t {n : Int} (h : fitB n = true) : -1125899906842624 ≤ n ∧ n ≤ 1125899906842624 := by simpa [fitB] using h
theorem fit_f {n : Int} (h : fitB n = false) : ¬ (-1125899906842624 ≤ n ∧ n ≤ 1125899906842624) := fun h2 => by rw [show fitB n = true by simpa [fitB] using h2] at h; cases h
def sm (l : List Ln) : Nat → Int
  | 0 => 0
  | k + 1 => sm l k + (ix l k).cents
def lw (l : List Ln) (k : Nat) : Int := sm l k % 18446744073709551616
def hg (l : List Ln) (k : Nat) : Int := sm l k / 18446744073709551616 % 18446744073709551616
theorem sm_in {l : List Ln} (h : ∀ q, q < l.length → fitB (ix l q).cents = true) : ∀ k, k ≤ l.length → -(k : Int) * 1125899906842624 ≤ sm l k ∧ sm l k ≤ (k : Int) * 1125899906842624
  | 0, _ => by simp [sm]
  | k + 1, hk => by
    have h1 := sm_in h k (by omega)
    have h2 := fit_t (h k (by omega))
    show _ ≤ sm l k + (ix l k).cents ∧ sm l k + (ix l k).cents ≤ _
    omega
theorem lw_in (l : List Ln) (k : Nat) : 0 ≤ lw l k ∧ lw l k < 18446744073709551616 := by unfold lw; omega
theorem lw_step (l : List Ln) (k : Nat) : (lw l k + IntKind.u64.wrap (ix l k).cents) % 18446744073709551616 = lw l (k + 1) := by
  unfold lw
  show _ = (sm l k + (ix l k).cents) % _
  rw [IntKind.wrap_u64]; omega
theorem hg_step (l : List Ln) (k : Nat) (h1 : -225179981368524800 ≤ sm l k ∧ sm l k ≤ 225179981368524800) (h2 : -1125899906842624 ≤ (ix l k).cents ∧ (ix l k).cents ≤ 1125899906842624) :
    IntKind.u64.wrap (hg l k + IntKind.u64.wrap (IntKind.u64.wrap ((ix l k).cents / 2 ^ min ((63 : Int)).toNat IntKind.i64.bits) + (lw l k + IntKind.u64.wrap (ix l k).cents) / 18446744073709551616)) = hg l (k + 1) := by
  have e : (2 : Int) ^ min ((63 : Int)).toNat IntKind.i64.bits = 9223372036854775808 := by decide
  rw [e]
  unfold hg lw
  show _ = (sm l k + (ix l k).cents) / _ % _
  generalize sm l k = S at *
  generalize (ix l k).cents = c at *
  have hS : (S / 18446744073709551616 = -1 ∧ S % 18446744073709551616 = S + 18446744073709551616) ∨ (S / 18446744073709551616 = 0 ∧ S % 18446744073709551616 = S) := by omega
  have hC : (c / 9223372036854775808 = -1 ∧ IntKind.u64.wrap c = c + 18446744073709551616 ∧ c < 0) ∨ (c / 9223372036854775808 = 0 ∧ IntKind.u64.wrap c = c ∧ 0 ≤ c) := by rw [IntKind.wrap_u64]; omega
  rcases hS with ⟨a1, a2⟩ | ⟨a1, a2⟩ <;> rcases hC with ⟨b1, b2, b3⟩ | ⟨b1, b2, b3⟩ <;> rw [a1, a2, b1, b2] <;> simp only [IntKind.wrap_u64] <;> omega
theorem add27 (x y : Nat) (w : World) : (callFunc 27 #[.int .u64 (x : Int), .int .u64 (y : Int), .int .u64 0]).run Try.prog w = .ok (.value (.tuple #[.int .u64 (((x + y) % 18446744073709551616 : Nat) : Int), .int .u64 (((x + y) / 18446744073709551616 : Nat) : Int)])) w := by
  have := Any7.bits_Add64 Try.laysAdd x y 0 (by omega) w
  exact this
theorem op_add64 {N : Nat} {w0 : World} {U0 : Nat → Nat} {o : Oper} {σ : AS} {x y : Operand} {ats : Array TypeId} (ho : o.op = .call { callee := .value (.func 27), args := #[x, y, .const (.int .u64 0)], argTypes := ats }) {a b : Int} (ha : 0 ≤ a) (hb : 0 ≤ b) (hx : σ.ev x = .d (.fl (.int .u64 a))) (hy : σ.ev y = .d (.fl (.int .u64 b))) (hd : dOk o N = true) :
    OpS Try.prog N w0 U0 o σ ⟨o.dst.map fun d => (d, .tu [.fl (.int .u64 ((a + b) % 18446744073709551616)), .fl (.int .u64 ((a + b) / 18446744073709551616))]), [], [], []⟩ := by
  refine opS_still (P := Try.prog) (av := .tu [.fl (.int .u64 ((a + b) % 18446744073709551616)), .fl (.int .u64 ((a + b) / 18446744073709551616))]) hd (fun σ' hok act w F hF => ?_)
  obtain ⟨x', rfl⟩ := Int.eq_ofNat_of_zero_le ha
  obtain ⟨y', rfl⟩ := Int.eq_ofNat_of_zero_le hb
  have e1 := flat_val (ev_get hok hF (x := x) (by simp [ho, Op.operands, Call.operands]) hx)
  have e2 := flat_val (ev_get hok hF (x := y) (by simp [ho, Op.operands, Call.operands]) hy)
  refine ⟨_, ?_, #[.int .u64 (((x' + y') % 18446744073709551616 : Nat) : Int), .int .u64 (((x' + y') / 18446744073709551616 : Nat) : Int)], rfl, rfl, fun j u d h1 h2 => ?_⟩
  · unfold execOp
    simp only [ho, resolve, Act.eval, Deferred.ofValue, invoke, Sem.run_bind, Sem.run_pure, Result.andThen_ok]
    have e3 : (#[] ++ Array.map act.eval #[x, y, Operand.const (.int .u64 0)] ++ #[] : Array Value) = #[.int .u64 (x' : Int), .int .u64 (y' : Int), .int .u64 0] := by
      have e4 : Array.map act.eval #[x, y, Operand.const (.int .u64 0)] = #[act.eval x, act.eval y, .int .u64 0] := by
        simp only [List.map_toArray, List.map_cons, List.map_nil]
        rfl
      rw [e4, e1, e2]
      simp
    rw [e3]
    exact add27 x' y' w
  · match j with
    | 0 => simp at h1 h2; subst h1 h2; exact .fl _
    | 1 => simp at h1 h2; subst h1 h2; exact .fl _
    | j + 2 => simp at h1
def nfit (l : List Ln) : Bool := l.any fun k => !(fitB k.cents)
theorem nfit_no {l : List Ln} (h : ∀ q, q < l.length → fitB (ix l q).cents = true) : nfit l = false := by unfold nfit; exact any_no (fun q hq => by rw [h q hq]; rfl)
theorem nfit_yes {l : List Ln} {k : Nat} (hk : k < l.length) (h : fitB (ix l k).cents = false) : nfit l = true := by unfold nfit; exact any_at hk (by rw [h]; rfl)
def adds (l : List Ln) (c : Int) : Bool := sm l l.length == c
theorem adds_eq {l : List Ln} {c : Int} (h1 : -225179981368524800 ≤ sm l l.length ∧ sm l l.length ≤ 225179981368524800) (hc : 0 ≤ c ∧ c ≤ 1125899906842624) : adds l c = ((hg l l.length == 0) && (lw l l.length == IntKind.u64.wrap c)) := by
  unfold adds hg lw
  rw [Bool.eq_iff_iff, IntKind.wrap_u64]
  simp only [Bool.and_eq_true, beq_iff_eq]
  omega
def pc (x : Cg) : Int := bif sEq x.key ⟨#[]⟩ || sEq x.veh ⟨#[]⟩ then 6 else bif decide (x.cls < 0) || decide (9 < x.cls) then 20 else bif decide (x.time < 0) || decide (68719476736 < x.time) then 12 else bif nfit x.lines then 13 else bif decide (x.cents < 0) || !(fitB x.cents) then 13 else bif adds x.lines x.cents then 0 else 8

set_option maxHeartbeats 4000000 in
set_option maxRecDepth 100000 in
theorem fit11 (n : Int) : Ctr Try.prog 11 [.fl (.int .i64 n)] (.d (.fl (.bool (fitB n)))) := by
  refine ctr (n := 9) (rs := #[.tmp 2]) (L := [(0, .d (.fl (.int .i64 n)))]) Try.func11 rfl rfl rfl rfl rfl (fun w0 U0 => ?_)
  refine a_rseq ?_
  refine rg_put (d := 2) (v := .d (.fl (.bool false))) rfl (og rfl (op_assign rfl rfl rfl)) ?_
  refine rg_done rfl ?_
  refine a_rseq ?_
  refine rg_put (d := 3) (v := .d (.fl (.int .i64 n))) rfl (og rfl (op_move rfl rfl rfl)) ?_
  refine rg_put (d := 4) (v := .d (.fl (.bool ((decide ((-1125899906842624) ≤ n)))))) rfl (og rfl (op_bin rfl rfl rfl (b_leq _ _ _ _) rfl)) ?_
  refine rg_put (d := 5) (v := .d (.fl (.bool ((decide ((-1125899906842624) ≤ n)))))) rfl (og rfl (op_move rfl rfl rfl)) ?_
  rcases fot ((decide ((-1125899906842624) ≤ n))) with h1 | h1
  · skip
    have h2 := f_dec h1
    refine rg_put (d := 6) (v := .d (.fl undef)) rfl (on rfl rfl rfl h1) ?_
    refine rg_put (d := 7) (v := .d (.fl undef)) rfl (on rfl rfl rfl h1) ?_
    refine rg_put (d := 8) (v := .d (.fl (.bool false))) rfl (og rfl (op_pick rfl rfl (by rw [h1]; rfl) rfl)) ?_
    refine rg_put (d := 2) (v := .d (.fl (.bool false))) rfl (og rfl (op_assign rfl rfl rfl)) ?_
    refine rg_done rfl ?_
    refine a_ret ?_
    show ∃ ds, ResL _ _ _ ds ∧ RV.of ds = _
    refine ⟨[.fl (.bool false)], (.cons (.tmp rfl (.d _)) .nil), ?_⟩
    first
      | (have hu : fitB n = false := by
          unfold fitB; simp only [h1, Bool.true_or, Bool.false_or, Bool.or_true, Bool.or_false, Bool.not_true, Bool.not_false, cond_true, cond_false, Bool.true_and, Bool.false_and, Bool.and_true, Bool.and_false] <;> rfl
         rw [hu]; rfl)
      | (exfalso; omega)
  · skip
    have h3 := t_dec h1
    refine rg_put (d := 6) (v := .d (.fl (.int .i64 n))) rfl (oy rfl rfl rfl h1 (op_move rfl rfl rfl)) ?_
    refine rg_put (d := 7) (v := .d (.fl (.bool ((decide (n ≤ 1125899906842624)))))) rfl (oy rfl rfl rfl h1 (op_bin rfl rfl rfl (b_leq _ _ _ _) rfl)) ?_
    refine rg_put (d := 8) (v := .d (.fl (.bool ((decide (n ≤ 1125899906842624)))))) rfl (og rfl (op_pick rfl rfl (by rw [h1]; rfl) rfl)) ?_
    refine rg_put (d := 2) (v := .d (.fl (.bool ((decide (n ≤ 1125899906842624)))))) rfl (og rfl (op_assign rfl rfl rfl)) ?_
    refine rg_done rfl ?_
    refine a_ret ?_
    show ∃ ds, ResL _ _ _ ds ∧ RV.of ds = _
    refine ⟨[.fl (.bool ((decide (n ≤ 1125899906842624))))], (.cons (.tmp rfl (.d _)) .nil), ?_⟩
    first
      | (have hu : fitB n = (decide (n ≤ 1125899906842624)) := by
          unfold fitB; simp only [h1, Bool.true_or, Bool.false_or, Bool.or_true, Bool.or_false, Bool.not_true, Bool.not_false, cond_true, cond_false, Bool.true_and, Bool.false_and, Bool.and_true, Bool.and_false] <;> rfl
         rw [hu]; rfl)
      | (exfalso; omega)
set_option maxHeartbeats 4000000 in
set_option maxRecDepth 100000 in
theorem fit13 (n : Int) : Ctr Try.prog 13 [.fl (.int .i64 n)] (.d (.fl (.bool (fitB n)))) := by
  refine ctr (n := 9) (rs := #[.tmp 2]) (L := [(0, .d (.fl (.int .i64 n)))]) Try.func13 rfl rfl rfl rfl rfl (fun w0 U0 => ?_)
  refine a_rseq ?_
  refine rg_put (d := 2) (v := .d (.fl (.bool false))) rfl (og rfl (op_assign rfl rfl rfl)) ?_
  refine rg_done rfl ?_
  refine a_rseq ?_
  refine rg_put (d := 3) (v := .d (.fl (.int .i64 n))) rfl (og rfl (op_move rfl rfl rfl)) ?_
  refine rg_put (d := 4) (v := .d (.fl (.bool ((decide ((-1125899906842624) ≤ n)))))) rfl (og rfl (op_bin rfl rfl rfl (b_geq _ _ _ _) rfl)) ?_
  refine rg_put (d := 5) (v := .d (.fl (.bool ((decide ((-1125899906842624) ≤ n)))))) rfl (og rfl (op_move rfl rfl rfl)) ?_
  rcases fot ((decide ((-1125899906842624) ≤ n))) with h1 | h1
  · skip
    have h2 := f_dec h1
    refine rg_put (d := 6) (v := .d (.fl undef)) rfl (on rfl rfl rfl h1) ?_
    refine rg_put (d := 7) (v := .d (.fl undef)) rfl (on rfl rfl rfl h1) ?_
    refine rg_put (d := 8) (v := .d (.fl (.bool false))) rfl (og rfl (op_pick rfl rfl (by rw [h1]; rfl) rfl)) ?_
    refine rg_put (d := 2) (v := .d (.fl (.bool false))) rfl (og rfl (op_assign rfl rfl rfl)) ?_
    refine rg_done rfl ?_
    refine a_ret ?_
    show ∃ ds, ResL _ _ _ ds ∧ RV.of ds = _
    refine ⟨[.fl (.bool false)], (.cons (.tmp rfl (.d _)) .nil), ?_⟩
    first
      | (have hu : fitB n = false := by
          unfold fitB; simp only [h1, Bool.true_or, Bool.false_or, Bool.or_true, Bool.or_false, Bool.not_true, Bool.not_false, cond_true, cond_false, Bool.true_and, Bool.false_and, Bool.and_true, Bool.and_false] <;> rfl
         rw [hu]; rfl)
      | (exfalso; omega)
  · skip
    have h3 := t_dec h1
    refine rg_put (d := 6) (v := .d (.fl (.int .i64 n))) rfl (oy rfl rfl rfl h1 (op_move rfl rfl rfl)) ?_
    refine rg_put (d := 7) (v := .d (.fl (.bool ((decide (n ≤ 1125899906842624)))))) rfl (oy rfl rfl rfl h1 (op_bin rfl rfl rfl (b_leq _ _ _ _) rfl)) ?_
    refine rg_put (d := 8) (v := .d (.fl (.bool ((decide (n ≤ 1125899906842624)))))) rfl (og rfl (op_pick rfl rfl (by rw [h1]; rfl) rfl)) ?_
    refine rg_put (d := 2) (v := .d (.fl (.bool ((decide (n ≤ 1125899906842624)))))) rfl (og rfl (op_assign rfl rfl rfl)) ?_
    refine rg_done rfl ?_
    refine a_ret ?_
    show ∃ ds, ResL _ _ _ ds ∧ RV.of ds = _
    refine ⟨[.fl (.bool ((decide (n ≤ 1125899906842624))))], (.cons (.tmp rfl (.d _)) .nil), ?_⟩
    first
      | (have hu : fitB n = (decide (n ≤ 1125899906842624)) := by
          unfold fitB; simp only [h1, Bool.true_or, Bool.false_or, Bool.or_true, Bool.or_false, Bool.not_true, Bool.not_false, cond_true, cond_false, Bool.true_and, Bool.false_and, Bool.and_true, Bool.and_false] <;> rfl
         rw [hu]; rfl)
      | (exfalso; omega)
set_option maxHeartbeats 4000000 in
set_option maxRecDepth 100000 in
theorem adds12 (l : List Ln) (c : Int) (hl : l.length ≤ 100) (hf : ∀ q, q < l.length → fitB (ix l q).cents = true) (hc : 0 ≤ c ∧ c ≤ 1125899906842624) : Ctr Try.prog 12 [.sl 2 (List.map eLn l), .fl (.int .i64 c)] (.d (.fl (.bool (adds l c)))) := by
  refine ctr (n := 43) (rs := #[.tmp 4]) (L := [(0, .d (.sl 2 (List.map eLn l))), (1, .d (.fl (.int .i64 c)))]) Try.func12 rfl rfl rfl rfl rfl (fun w0 U0 => ?_)
  refine a_rseq ?_
  refine rg_put (d := 4) (v := .d (.fl (.bool false))) rfl (og rfl (op_assign rfl rfl rfl)) ?_
  refine rg_done rfl ?_
  refine a_rseq ?_
  refine rg_put (d := 5) (v := .d (.fl (.int .u64 0))) rfl (og rfl (op_assign rfl rfl rfl)) ?_
  refine rg_put (d := 6) (v := .d (.fl (.int .u64 0))) rfl (og rfl (op_assign rfl rfl rfl)) ?_
  refine rg_done rfl ?_
  refine a_seq ?_
  refine a_rseq ?_
  refine rg_put (d := 11) (v := .d (.sl 2 (List.map eLn l))) rfl (og rfl (op_move rfl rfl rfl)) ?_
  refine rg_put (d := 12) (v := .d (.fl (.int .i64 (l.length : Int)))) rfl (og rfl (s_len rfl Try.underlying22 rfl rfl)) ?_
  refine rg_put (d := 13) (v := .d (.fl (.int .i64 0))) rfl (og rfl (op_move rfl rfl rfl)) ?_
  refine rg_done rfl ?_
  refine a_block ?_
  refine a_loop (ι := Nat) (fun k => SS [(0, .d (.sl 2 (List.map eLn l))), (1, .d (.fl (.int .i64 c))), (4, .d (.fl (.bool false))), (11, .d (.sl 2 (List.map eLn l))), (12, .d (.fl (.int .i64 (l.length : Int)))), (13, .d (.fl (.int .i64 (k : Int)))), (5, .d (.fl (.int .u64 (hg l k)))), (6, .d (.fl (.int .u64 (lw l k))))] []) (fun k => k ≤ l.length) (fun k => l.length - k) 0 (by omega) (imp_forget rfl ⟨rfl, rfl, rfl, rfl, rfl, (by first | rfl | exact ci (by omega) | exact ci (by simp) | exact cd (by simp) | simp), rfl, rfl, trivial⟩ trivial) (fun k hok => ?_)
  have hk := hok
  refine a_rseq ?_
  refine rg_put (d := 14) (v := .d (.fl (.bool ((decide ((k : Int) < (l.length : Int))))))) rfl (og rfl (op_bin rfl rfl rfl (b_lss _ _ _ _) rfl)) ?_
  refine rg_done rfl ?_
  refine a_seq ?_
  refine a_cond rfl (fun h1 => ?_) (fun h1 => ?_)
  · skip
    have h2 := t_dec h1
    refine a_skip ?_
    show A _ _ _ _ _ _ _
    refine a_seq ?_
    refine a_block ?_
    refine a_rseq ?_
    refine rg_put (d := 15) (v := .el ((eLn (ix l k)))) rfl (og rfl (s_index rfl Try.underlying22 ti82 rfl rfl (by omega) (row_at (by omega)) rfl)) ?_
    refine rg_put (d := 16) (v := .d (.ag (eLn (ix l k)))) rfl (og rfl (of_eff (s_load_els rfl Try.underlying82 rfl ti82 rfl rfl rfl) rfl)) ?_
    refine rg_nam (d := 8) (v := .pt 101 0) (m := 101) (nw := [(101, .bx 82 ([.fl (.string (⟨#[]⟩)), .fl (.int .i64 0)]))]) rfl (og rfl (of_eff (s_alloc 101 rfl ti82 (by kernel_rfl) rfl) rfl)) rfl ?_
    refine rg_sto (nw := [(101, .bx 82 ((eLn (ix l k))))]) rfl (og rfl (of_eff (s_store rfl rfl ti82 rfl rfl rfl rfl rfl rfl) rfl)) ?_
    refine rg_done rfl ?_
    refine a_rseq ?_
    have hin := sm_in hf k hk
    have hlw := lw_in l k
    have hct := fit_t (hf k (by omega))
    have hwr : 0 ≤ IntKind.u64.wrap (ix l k).cents := by rw [IntKind.wrap_u64]; omega
    refine rg_put (d := 18) (v := .d (.fl (.int .u64 (lw l k)))) rfl (og rfl (op_move rfl rfl rfl)) ?_
    refine rg_put (d := 19) (v := .pt 101 1) rfl (og rfl (of_eff (s_field_pt rfl Try.underlying82 rfl ti3 rfl rfl rfl) rfl)) ?_
    refine rg_put (d := 20) (v := .d (.fl (.int .i64 ((ix l k).cents)))) rfl (og rfl (op_load_pt rfl Try.underlying3 rfl rfl rfl rfl rfl)) ?_
    refine rg_put (d := 21) (v := .d (.fl (.int .u64 ((IntKind.u64.wrap ((ix l k).cents)))))) rfl (og rfl (op_convK rfl Try.underlying3 Try.underlying101 rfl rfl)) ?_
    refine rg_put (d := 22) (v := .tu [.fl (.int .u64 ((((lw l k) + ((IntKind.u64.wrap ((ix l k).cents)))) % 18446744073709551616))), .fl (.int .u64 ((((lw l k) + ((IntKind.u64.wrap ((ix l k).cents)))) / 18446744073709551616)))]) rfl (og rfl (op_add64 rfl (by omega) (by omega) rfl rfl rfl)) ?_
    refine rg_put (d := 17) (v := .tu [.fl (.int .u64 ((((lw l k) + ((IntKind.u64.wrap ((ix l k).cents)))) % 18446744073709551616))), .fl (.int .u64 ((((lw l k) + ((IntKind.u64.wrap ((ix l k).cents)))) / 18446744073709551616)))]) rfl (og rfl (op_move rfl rfl rfl)) ?_
    refine rg_put (d := 23) (v := .d (.fl (.int .u64 ((((lw l k) + ((IntKind.u64.wrap ((ix l k).cents)))) % 18446744073709551616))))) rfl (og rfl (op_extract rfl rfl rfl rfl)) ?_
    refine rg_put (d := 24) (v := .d (.fl (.int .u64 ((((lw l k) + ((IntKind.u64.wrap ((ix l k).cents)))) / 18446744073709551616))))) rfl (og rfl (op_extract rfl rfl rfl rfl)) ?_
    refine rg_put (d := 9) (v := .d (.fl (.int .u64 ((((lw l k) + ((IntKind.u64.wrap ((ix l k).cents)))) % 18446744073709551616))))) rfl (og rfl (op_assign rfl rfl rfl)) ?_
    refine rg_put (d := 10) (v := .d (.fl (.int .u64 ((((lw l k) + ((IntKind.u64.wrap ((ix l k).cents)))) / 18446744073709551616))))) rfl (og rfl (op_assign rfl rfl rfl)) ?_
    refine rg_done rfl ?_
    refine a_rseq ?_
    refine rg_put (d := 25) (v := .d (.fl (.int .u64 ((((lw l k) + ((IntKind.u64.wrap ((ix l k).cents)))) % 18446744073709551616))))) rfl (og rfl (op_move rfl rfl rfl)) ?_
    refine rg_put (d := 6) (v := .d (.fl (.int .u64 ((((lw l k) + ((IntKind.u64.wrap ((ix l k).cents)))) % 18446744073709551616))))) rfl (og rfl (op_assign rfl rfl rfl)) ?_
    refine rg_done rfl ?_
    refine a_region ?_
    refine rg_put (d := 26) (v := .d (.fl (.int .u64 (hg l k)))) rfl (og rfl (op_move rfl rfl rfl)) ?_
    refine rg_put (d := 27) (v := .pt 101 1) rfl (og rfl (of_eff (s_field_pt rfl Try.underlying82 rfl ti3 rfl rfl rfl) rfl)) ?_
    refine rg_put (d := 28) (v := .d (.fl (.int .i64 ((ix l k).cents)))) rfl (og rfl (op_load_pt rfl Try.underlying3 rfl rfl rfl rfl rfl)) ?_
    refine rg_put (d := 29) (v := .d (.fl (.int .i64 ((((ix l k).cents) / 2 ^ min ((63 : Int)).toNat IntKind.i64.bits))))) rfl (og rfl (op_bin rfl rfl rfl (fun x y w => b_shr _ _ _ _ _ x y w (by omega)) rfl)) ?_
    refine rg_put (d := 30) (v := .d (.fl (.int .u64 ((IntKind.u64.wrap ((((ix l k).cents) / 2 ^ min ((63 : Int)).toNat IntKind.i64.bits))))))) rfl (og rfl (op_convK rfl Try.underlying3 Try.underlying101 rfl rfl)) ?_
    refine rg_put (d := 31) (v := .d (.fl (.int .u64 ((((lw l k) + ((IntKind.u64.wrap ((ix l k).cents)))) / 18446744073709551616))))) rfl (og rfl (op_move rfl rfl rfl)) ?_
    refine rg_put (d := 32) (v := .d (.fl (.int .u64 ((IntKind.u64.wrap (((IntKind.u64.wrap ((((ix l k).cents) / 2 ^ min ((63 : Int)).toNat IntKind.i64.bits)))) + ((((lw l k) + ((IntKind.u64.wrap ((ix l k).cents)))) / 18446744073709551616)))))))) rfl (og rfl (op_bin rfl rfl rfl (b_add _ _ _ _) rfl)) ?_
    refine rg_put (d := 33) (v := .d (.fl (.int .u64 ((IntKind.u64.wrap ((hg l k) + ((IntKind.u64.wrap (((IntKind.u64.wrap ((((ix l k).cents) / 2 ^ min ((63 : Int)).toNat IntKind.i64.bits)))) + ((((lw l k) + ((IntKind.u64.wrap ((ix l k).cents)))) / 18446744073709551616))))))))))) rfl (og rfl (op_bin rfl rfl rfl (b_add _ _ _ _) rfl)) ?_
    refine rg_put (d := 5) (v := .d (.fl (.int .u64 ((IntKind.u64.wrap ((hg l k) + ((IntKind.u64.wrap (((IntKind.u64.wrap ((((ix l k).cents) / 2 ^ min ((63 : Int)).toNat IntKind.i64.bits)))) + ((((lw l k) + ((IntKind.u64.wrap ((ix l k).cents)))) / 18446744073709551616))))))))))) rfl (og rfl (op_assign rfl rfl rfl)) ?_
    refine rg_done rfl ?_
    show A _ _ _ _ _ _ _
    refine a_region ?_
    refine rg_put (d := 34) (v := .d (.fl (.int .i64 (((k : Int) + 1))))) rfl (og rfl (op_bin rfl rfl rfl (fun x y w => b_add64 _ _ _ x y w (by omega)) rfl)) ?_
    refine rg_put (d := 13) (v := .d (.fl (.int .i64 (((k : Int) + 1))))) rfl (og rfl (op_move rfl rfl rfl)) ?_
    refine rg_done rfl ?_
    show ∃ i, _ ∧ _ ∧ Imp _ _ _ _ _
    refine ⟨k + 1, (by omega), by omega, imp_forget rfl ⟨rfl, rfl, rfl, rfl, rfl, (by first | rfl | exact ci (by omega) | exact ci (by simp) | exact cd (by simp) | simp), (congrArg (fun z => AV.d (.fl (.int .u64 z))) (hg_step l k (by omega) hct)), (congrArg (fun z => AV.d (.fl (.int .u64 z))) (lw_step l k)), trivial⟩ trivial⟩
  · skip
    have h3 := f_dec h1
    refine a_exit ?_
    show A _ _ _ _ _ _ _
    refine a_rseq ?_
    have hkl : k = l.length := by omega
    rw [show (hg l k) = (hg l l.length) from by rw [hkl]]
    rw [show (lw l k) = (lw l l.length) from by rw [hkl]]
    have hin := sm_in hf l.length (Nat.le_refl _)
    refine rg_put (d := 35) (v := .d (.fl (.int .u64 (hg l l.length)))) rfl (og rfl (op_move rfl rfl rfl)) ?_
    refine rg_put (d := 36) (v := .d (.fl (.bool (((hg l l.length) == 0))))) rfl (og rfl (op_bin rfl rfl rfl (b_eql _ _ _ _) rfl)) ?_
    refine rg_put (d := 37) (v := .d (.fl (.bool (((hg l l.length) == 0))))) rfl (og rfl (op_move rfl rfl rfl)) ?_
    rcases fot (((hg l l.length) == 0)) with h4 | h4
    · skip
      have h5 := f_beq h4
      refine rg_put (d := 38) (v := .d (.fl undef)) rfl (on rfl rfl rfl h4) ?_
      refine rg_put (d := 39) (v := .d (.fl undef)) rfl (on rfl rfl rfl h4) ?_
      refine rg_put (d := 40) (v := .d (.fl undef)) rfl (on rfl rfl rfl h4) ?_
      refine rg_put (d := 41) (v := .d (.fl undef)) rfl (on rfl rfl rfl h4) ?_
      refine rg_put (d := 42) (v := .d (.fl (.bool false))) rfl (og rfl (op_pick rfl rfl (by rw [h4]; rfl) rfl)) ?_
      refine rg_put (d := 4) (v := .d (.fl (.bool false))) rfl (og rfl (op_assign rfl rfl rfl)) ?_
      refine rg_done rfl ?_
      refine a_ret ?_
      show ∃ ds, ResL _ _ _ ds ∧ RV.of ds = _
      refine ⟨[.fl (.bool false)], (.cons (.tmp rfl (.d _)) .nil), ?_⟩
      have hu : adds l c = false := by rw [adds_eq (by omega) hc]; simp only [h1, h4, Bool.true_or, Bool.false_or, Bool.or_true, Bool.or_false, Bool.not_true, Bool.not_false, cond_true, cond_false, Bool.true_and, Bool.false_and, Bool.and_true, Bool.and_false] <;> rfl
      rw [hu]; rfl
    · skip
      have h6 := t_beq h4
      refine rg_put (d := 38) (v := .d (.fl (.int .u64 (lw l l.length)))) rfl (oy rfl rfl rfl h4 (op_move rfl rfl rfl)) ?_
      refine rg_put (d := 39) (v := .d (.fl (.int .i64 c))) rfl (oy rfl rfl rfl h4 (op_move rfl rfl rfl)) ?_
      refine rg_put (d := 40) (v := .d (.fl (.int .u64 (IntKind.u64.wrap c)))) rfl (oy rfl rfl rfl h4 (op_convK rfl Try.underlying3 Try.underlying101 rfl rfl)) ?_
      refine rg_put (d := 41) (v := .d (.fl (.bool (((lw l l.length) == (IntKind.u64.wrap c)))))) rfl (oy rfl rfl rfl h4 (op_bin rfl rfl rfl (b_eql _ _ _ _) rfl)) ?_
      refine rg_put (d := 42) (v := .d (.fl (.bool (((lw l l.length) == (IntKind.u64.wrap c)))))) rfl (og rfl (op_pick rfl rfl (by rw [h4]; rfl) rfl)) ?_
      refine rg_put (d := 4) (v := .d (.fl (.bool (((lw l l.length) == (IntKind.u64.wrap c)))))) rfl (og rfl (op_assign rfl rfl rfl)) ?_
      refine rg_done rfl ?_
      refine a_ret ?_
      show ∃ ds, ResL _ _ _ ds ∧ RV.of ds = _
      refine ⟨[.fl (.bool (((lw l l.length) == (IntKind.u64.wrap c))))], (.cons (.tmp rfl (.d _)) .nil), ?_⟩
      have hu : adds l c = ((lw l l.length) == (IntKind.u64.wrap c)) := by rw [adds_eq (by omega) hc]; simp only [h1, h4, Bool.true_or, Bool.false_or, Bool.or_true, Bool.or_false, Bool.not_true, Bool.not_false, cond_true, cond_false, Bool.true_and, Bool.false_and, Bool.and_true, Bool.and_false] <;> rfl
      rw [hu]; rfl
def lnR (l : List Ln) : Int × Int := bif fitB (sm l l.length) then (sm l l.length, 0) else (0, 13)
theorem adds_ref {l : List Ln} {c : Int} (hc : fitB c = true) : adds l c = (!((lnR l).2 != 0) && !((lnR l).1 != c)) := by
  unfold adds lnR
  cases hs : fitB (sm l l.length) with
  | false =>
    have h : sm l l.length ≠ c := fun e => by rw [e, hc] at hs; cases hs
    simp [h]
  | true => simp [bne]

set_option maxHeartbeats 4000000 in
set_option maxRecDepth 100000 in
theorem lines14 (l : List Ln) (hl : l.length ≤ 100) (hf : ∀ q, q < l.length → fitB (ix l q).cents = true) : Ctr Try.prog 14 [.sl 2 (List.map eLn l)] (.tu [.fl (.int .i64 (lnR l).1), .fl (.int .i64 (lnR l).2)]) := by
  refine ctr (n := 30) (rs := #[.tmp 2, .tmp 3]) (L := [(0, .d (.sl 2 (List.map eLn l)))]) Try.func14 rfl rfl rfl rfl rfl (fun w0 U0 => ?_)
  refine a_rseq ?_
  refine rg_put (d := 2) (v := .d (.fl (.int .i64 0))) rfl (og rfl (op_assign rfl rfl rfl)) ?_
  refine rg_put (d := 3) (v := .d (.fl (.int .i64 0))) rfl (og rfl (op_assign rfl rfl rfl)) ?_
  refine rg_done rfl ?_
  refine a_rseq ?_
  refine rg_put (d := 4) (v := .d (.fl (.int .i64 0))) rfl (og rfl (op_assign rfl rfl rfl)) ?_
  refine rg_done rfl ?_
  refine a_seq ?_
  refine a_rseq ?_
  refine rg_put (d := 5) (v := .d (.fl (.int .i64 0))) rfl (og rfl (op_assign rfl rfl rfl)) ?_
  refine rg_done rfl ?_
  refine a_block ?_
  refine a_loop (ι := Nat) (fun k => SS [(0, .d (.sl 2 (List.map eLn l))), (5, .d (.fl (.int .i64 (k : Int)))), (4, .d (.fl (.int .i64 (sm l k))))] []) (fun k => k ≤ l.length) (fun k => l.length - k) 0 (by omega) (imp_forget rfl ⟨rfl, (by first | rfl | exact ci (by omega) | exact ci (by simp) | exact cd (by simp) | simp), rfl, trivial⟩ trivial) (fun k hok => ?_)
  have hk := hok
  refine a_seq ?_
  refine a_rseq ?_
  have hin := sm_in hf k hk
  refine rg_put (d := 6) (v := .d (.fl (.int .i64 (k : Int)))) rfl (og rfl (op_move rfl rfl rfl)) ?_
  refine rg_put (d := 7) (v := .d (.sl 2 (List.map eLn l))) rfl (og rfl (op_move rfl rfl rfl)) ?_
  refine rg_put (d := 8) (v := .d (.fl (.int .i64 (l.length : Int)))) rfl (og rfl (s_len rfl Try.underlying22 rfl rfl)) ?_
  refine rg_put (d := 9) (v := .d (.fl (.bool ((decide ((k : Int) < (l.length : Int))))))) rfl (og rfl (op_bin rfl rfl rfl (b_lss _ _ _ _) rfl)) ?_
  refine rg_done rfl ?_
  refine a_cond rfl (fun h1 => ?_) (fun h1 => ?_)
  · skip
    have h2 := t_dec h1
    refine a_skip ?_
    show A _ _ _ _ _ _ _
    refine a_seq ?_
    refine a_block ?_
    refine a_seq ?_
    refine a_rseq ?_
    have hct := hf k (by omega)
    have hct2 := fit_t hct
    refine rg_put (d := 12) (v := .d (.sl 2 (List.map eLn l))) rfl (og rfl (op_move rfl rfl rfl)) ?_
    refine rg_put (d := 13) (v := .d (.fl (.int .i64 (k : Int)))) rfl (og rfl (op_move rfl rfl rfl)) ?_
    refine rg_put (d := 14) (v := .el ((eLn (ix l k)))) rfl (og rfl (s_index rfl Try.underlying22 ti82 rfl rfl (by omega) (row_at (by omega)) rfl)) ?_
    refine rg_put (d := 15) (v := .el ((List.drop 1 ((eLn (ix l k)))))) rfl (og rfl (of_eff (s_field_el rfl Try.underlying82 rfl ti3 rfl rfl rfl) rfl)) ?_
    refine rg_put (d := 16) (v := .d (.fl (.int .i64 ((ix l k).cents)))) rfl (og rfl (op_load_el rfl Try.underlying3 rfl rfl rfl rfl)) ?_
    refine rg_put (d := 17) (v := .d (.fl (.bool ((fitB ((ix l k).cents)))))) rfl (og rfl (op_call rfl Try.func13 nm13 rfl (.cons rfl (.d _) .nil) (fit13 ((ix l k).cents)) rfl)) ?_
    refine rg_put (d := 18) (v := .d (.fl (.bool ((!((fitB ((ix l k).cents)))))))) rfl (og rfl (op_un rfl rfl (u_not _) rfl)) ?_
    refine rg_done rfl ?_
    refine a_condF rfl (not_f hct) ?_
    refine a_skip ?_
    show A _ _ _ _ _ _ _
    refine a_region ?_
    refine rg_put (d := 19) (v := .d (.fl (.int .i64 (sm l k)))) rfl (og rfl (op_move rfl rfl rfl)) ?_
    refine rg_put (d := 20) (v := .d (.sl 2 (List.map eLn l))) rfl (og rfl (op_move rfl rfl rfl)) ?_
    refine rg_put (d := 21) (v := .d (.fl (.int .i64 (k : Int)))) rfl (og rfl (op_move rfl rfl rfl)) ?_
    refine rg_put (d := 22) (v := .el ((eLn (ix l k)))) rfl (og rfl (s_index rfl Try.underlying22 ti82 rfl rfl (by omega) (row_at (by omega)) rfl)) ?_
    refine rg_put (d := 23) (v := .el ((List.drop 1 ((eLn (ix l k)))))) rfl (og rfl (of_eff (s_field_el rfl Try.underlying82 rfl ti3 rfl rfl rfl) rfl)) ?_
    refine rg_put (d := 24) (v := .d (.fl (.int .i64 ((ix l k).cents)))) rfl (og rfl (op_load_el rfl Try.underlying3 rfl rfl rfl rfl)) ?_
    refine rg_put (d := 25) (v := .d (.fl (.int .i64 (((sm l k) + (ix l k).cents))))) rfl (og rfl (op_bin rfl rfl rfl (fun x y w => b_add64 _ _ _ x y w (by omega)) rfl)) ?_
    refine rg_put (d := 4) (v := .d (.fl (.int .i64 (((sm l k) + (ix l k).cents))))) rfl (og rfl (op_assign rfl rfl rfl)) ?_
    refine rg_done rfl ?_
    show A _ _ _ _ _ _ _
    refine a_region ?_
    refine rg_put (d := 10) (v := .d (.fl (.int .i64 (k : Int)))) rfl (og rfl (op_move rfl rfl rfl)) ?_
    refine rg_put (d := 11) (v := .d (.fl (.int .i64 (((k : Int) + 1))))) rfl (og rfl (op_bin rfl rfl rfl (fun x y w => b_add64 _ _ _ x y w (by omega)) rfl)) ?_
    refine rg_put (d := 5) (v := .d (.fl (.int .i64 (((k : Int) + 1))))) rfl (og rfl (op_assign rfl rfl rfl)) ?_
    refine rg_done rfl ?_
    show ∃ i, _ ∧ _ ∧ Imp _ _ _ _ _
    refine ⟨k + 1, (by omega), by omega, imp_forget rfl ⟨rfl, (by first | rfl | exact ci (by omega) | exact ci (by simp) | exact cd (by simp) | simp), rfl, trivial⟩ trivial⟩
  · skip
    have h3 := f_dec h1
    refine a_exit ?_
    show A _ _ _ _ _ _ _
    refine a_seq ?_
    refine a_rseq ?_
    have hkl : k = l.length := by omega
    rw [show (sm l k) = (sm l l.length) from by rw [hkl]]
    refine rg_put (d := 26) (v := .d (.fl (.int .i64 (sm l l.length)))) rfl (og rfl (op_move rfl rfl rfl)) ?_
    refine rg_put (d := 27) (v := .d (.fl (.bool ((fitB (sm l l.length)))))) rfl (og rfl (op_call rfl Try.func13 nm13 rfl (.cons rfl (.d _) .nil) (fit13 (sm l l.length)) rfl)) ?_
    refine rg_put (d := 28) (v := .d (.fl (.bool ((!((fitB (sm l l.length)))))))) rfl (og rfl (op_un rfl rfl (u_not _) rfl)) ?_
    refine rg_done rfl ?_
    refine a_cond rfl (fun h4 => ?_) (fun h4 => ?_)
    · skip
      have h5 := t_not h4
      refine a_rseq ?_
      refine rg_put (d := 2) (v := .d (.fl (.int .i64 0))) rfl (og rfl (op_assign rfl rfl rfl)) ?_
      refine rg_put (d := 3) (v := .d (.fl (.int .i64 13))) rfl (og rfl (op_assign rfl rfl rfl)) ?_
      refine rg_done rfl ?_
      refine a_ret ?_
      show ∃ ds, ResL _ _ _ ds ∧ RV.of ds = _
      refine ⟨[.fl (.int .i64 0), .fl (.int .i64 13)], (.cons (.tmp rfl (.d _)) (.cons (.tmp rfl (.d _)) .nil)), ?_⟩
      first
        | (exfalso; simp_all; done)
        | (unfold lnR; simp only [h1, h4, h5, Bool.true_or, Bool.false_or, Bool.or_true, Bool.or_false, Bool.not_true, Bool.not_false, cond_true, cond_false, Bool.true_and, Bool.false_and, Bool.and_true, Bool.and_false] <;> rfl)
    · skip
      have h6 := f_not h4
      refine a_skip ?_
      show A _ _ _ _ _ _ _
      refine a_rseq ?_
      refine rg_put (d := 29) (v := .d (.fl (.int .i64 (sm l l.length)))) rfl (og rfl (op_move rfl rfl rfl)) ?_
      refine rg_put (d := 2) (v := .d (.fl (.int .i64 (sm l l.length)))) rfl (og rfl (op_assign rfl rfl rfl)) ?_
      refine rg_put (d := 3) (v := .d (.fl (.int .i64 0))) rfl (og rfl (op_assign rfl rfl rfl)) ?_
      refine rg_done rfl ?_
      refine a_ret ?_
      show ∃ ds, ResL _ _ _ ds ∧ RV.of ds = _
      refine ⟨[.fl (.int .i64 (sm l l.length)), .fl (.int .i64 0)], (.cons (.tmp rfl (.d _)) (.cons (.tmp rfl (.d _)) .nil)), ?_⟩
      first
        | (exfalso; simp_all; done)
        | (unfold lnR; simp only [h1, h4, h6, Bool.true_or, Bool.false_or, Bool.or_true, Bool.or_false, Bool.not_true, Bool.not_false, cond_true, cond_false, Bool.true_and, Bool.false_and, Bool.and_true, Bool.and_false] <;> rfl)
set_option maxHeartbeats 4000000 in
set_option maxRecDepth 100000 in
theorem pc5 (x : Cg) (hl : x.lines.length ≤ 100) : Ctr Try.prog 5 [.ag (eCg x)] (.d (.fl (.int .i64 (pc x)))) := by
  refine ctr (n := 59) (rs := #[.tmp 2]) (L := [(0, .d (.ag (eCg x)))]) Try.func5 rfl rfl rfl rfl rfl (fun w0 U0 => ?_)
  refine a_rseq ?_
  refine rg_nam (d := 1) (v := .pt 101 0) (m := 101) (nw := [(101, .bx 24 (eCg x))]) rfl (og rfl (of_eff (op_box 101 rfl rfl rfl rfl) rfl)) rfl ?_
  refine rg_put (d := 2) (v := .d (.fl (.int .i64 0))) rfl (og rfl (op_assign rfl rfl rfl)) ?_
  refine rg_done rfl ?_
  refine a_seq ?_
  refine a_block ?_
  refine a_rseq ?_
  refine rg_put (d := 6) (v := .pt 101 0) rfl (og rfl (of_eff (s_field_pt rfl Try.underlying24 rfl ti9 rfl rfl rfl) rfl)) ?_
  refine rg_put (d := 7) (v := .d (.fl (.string x.key))) rfl (og rfl (op_load_pt rfl Try.underlying9 rfl rfl rfl rfl rfl)) ?_
  refine rg_put (d := 8) (v := .d (.fl (.bool ((sEq x.key (⟨#[]⟩)))))) rfl (og rfl (op_bin rfl rfl rfl (b_seq _ _ _) rfl)) ?_
  refine rg_put (d := 9) (v := .d (.fl (.bool ((sEq x.key (⟨#[]⟩)))))) rfl (og rfl (op_move rfl rfl rfl)) ?_
  rcases fot ((sEq x.key (⟨#[]⟩))) with h1 | h1
  · skip
    refine rg_put (d := 10) (v := .pt 101 1) rfl (oy rfl rfl rfl h1 (of_eff (s_field_pt rfl Try.underlying24 rfl ti9 rfl rfl rfl) rfl)) ?_
    refine rg_put (d := 11) (v := .d (.fl (.string x.veh))) rfl (oy rfl rfl rfl h1 (op_load_pt rfl Try.underlying9 rfl rfl rfl rfl rfl)) ?_
    refine rg_put (d := 12) (v := .d (.fl (.bool ((sEq x.veh (⟨#[]⟩)))))) rfl (oy rfl rfl rfl h1 (op_bin rfl rfl rfl (b_seq _ _ _) rfl)) ?_
    refine rg_put (d := 13) (v := .d (.fl (.bool ((sEq x.veh (⟨#[]⟩)))))) rfl (og rfl (op_pick rfl rfl (by rw [h1]; rfl) rfl)) ?_
    refine rg_put (d := 5) (v := .d (.fl (.bool ((sEq x.veh (⟨#[]⟩)))))) rfl (og rfl (op_assign rfl rfl rfl)) ?_
    refine rg_done rfl ?_
    refine a_cond rfl (fun h2 => ?_) (fun h2 => ?_)
    · skip
      refine a_rseq ?_
      refine rg_put (d := 2) (v := .d (.fl (.int .i64 6))) rfl (og rfl (op_assign rfl rfl rfl)) ?_
      refine rg_done rfl ?_
      refine a_ret ?_
      show ∃ ds, ResL _ _ _ ds ∧ RV.of ds = _
      refine ⟨[.fl (.int .i64 6)], (.cons (.tmp rfl (.d _)) .nil), ?_⟩
      have hu : pc x = 6 := by
        unfold pc; simp only [h1, h2, Bool.true_or, Bool.false_or, Bool.or_true, Bool.or_false, Bool.not_true, Bool.not_false, cond_true, cond_false, Bool.true_and, Bool.false_and, Bool.and_true, Bool.and_false] <;> rfl
      rw [hu]; rfl
    · skip
      refine a_rseq ?_
      refine rg_put (d := 15) (v := .pt 101 3) rfl (og rfl (of_eff (s_field_pt rfl Try.underlying24 rfl ti3 rfl rfl rfl) rfl)) ?_
      refine rg_put (d := 16) (v := .d (.fl (.int .i64 x.cls))) rfl (og rfl (op_load_pt rfl Try.underlying3 rfl rfl rfl rfl rfl)) ?_
      refine rg_put (d := 17) (v := .d (.fl (.bool ((decide (x.cls < 0)))))) rfl (og rfl (op_bin rfl rfl rfl (b_lss _ _ _ _) rfl)) ?_
      refine rg_put (d := 18) (v := .d (.fl (.bool ((decide (x.cls < 0)))))) rfl (og rfl (op_move rfl rfl rfl)) ?_
      rcases fot ((decide (x.cls < 0))) with h3 | h3
      · skip
        have h4 := f_dec h3
        refine rg_put (d := 19) (v := .pt 101 3) rfl (oy rfl rfl rfl h3 (of_eff (s_field_pt rfl Try.underlying24 rfl ti3 rfl rfl rfl) rfl)) ?_
        refine rg_put (d := 20) (v := .d (.fl (.int .i64 x.cls))) rfl (oy rfl rfl rfl h3 (op_load_pt rfl Try.underlying3 rfl rfl rfl rfl rfl)) ?_
        refine rg_put (d := 21) (v := .d (.fl (.bool ((decide (9 < x.cls)))))) rfl (oy rfl rfl rfl h3 (op_bin rfl rfl rfl (b_gtr _ _ _ _) rfl)) ?_
        refine rg_put (d := 22) (v := .d (.fl (.bool ((decide (9 < x.cls)))))) rfl (og rfl (op_pick rfl rfl (by rw [h3]; rfl) rfl)) ?_
        refine rg_put (d := 14) (v := .d (.fl (.bool ((decide (9 < x.cls)))))) rfl (og rfl (op_assign rfl rfl rfl)) ?_
        refine rg_done rfl ?_
        refine a_cond rfl (fun h5 => ?_) (fun h5 => ?_)
        · skip
          have h6 := t_dec h5
          refine a_rseq ?_
          refine rg_put (d := 2) (v := .d (.fl (.int .i64 20))) rfl (og rfl (op_assign rfl rfl rfl)) ?_
          refine rg_done rfl ?_
          refine a_ret ?_
          show ∃ ds, ResL _ _ _ ds ∧ RV.of ds = _
          refine ⟨[.fl (.int .i64 20)], (.cons (.tmp rfl (.d _)) .nil), ?_⟩
          have hu : pc x = 20 := by
            unfold pc; simp only [h1, h2, h3, h5, Bool.true_or, Bool.false_or, Bool.or_true, Bool.or_false, Bool.not_true, Bool.not_false, cond_true, cond_false, Bool.true_and, Bool.false_and, Bool.and_true, Bool.and_false] <;> rfl
          rw [hu]; rfl
        · skip
          have h7 := f_dec h5
          refine a_rseq ?_
          refine rg_put (d := 24) (v := .pt 101 4) rfl (og rfl (of_eff (s_field_pt rfl Try.underlying24 rfl ti3 rfl rfl rfl) rfl)) ?_
          refine rg_put (d := 25) (v := .d (.fl (.int .i64 x.time))) rfl (og rfl (op_load_pt rfl Try.underlying3 rfl rfl rfl rfl rfl)) ?_
          refine rg_put (d := 26) (v := .d (.fl (.bool ((decide (x.time < 0)))))) rfl (og rfl (op_bin rfl rfl rfl (b_lss _ _ _ _) rfl)) ?_
          refine rg_put (d := 27) (v := .d (.fl (.bool ((decide (x.time < 0)))))) rfl (og rfl (op_move rfl rfl rfl)) ?_
          rcases fot ((decide (x.time < 0))) with h8 | h8
          · skip
            have h9 := f_dec h8
            refine rg_put (d := 28) (v := .pt 101 4) rfl (oy rfl rfl rfl h8 (of_eff (s_field_pt rfl Try.underlying24 rfl ti3 rfl rfl rfl) rfl)) ?_
            refine rg_put (d := 29) (v := .d (.fl (.int .i64 x.time))) rfl (oy rfl rfl rfl h8 (op_load_pt rfl Try.underlying3 rfl rfl rfl rfl rfl)) ?_
            refine rg_put (d := 30) (v := .d (.fl (.bool ((decide (68719476736 < x.time)))))) rfl (oy rfl rfl rfl h8 (op_bin rfl rfl rfl (b_gtr _ _ _ _) rfl)) ?_
            refine rg_put (d := 31) (v := .d (.fl (.bool ((decide (68719476736 < x.time)))))) rfl (og rfl (op_pick rfl rfl (by rw [h8]; rfl) rfl)) ?_
            refine rg_put (d := 23) (v := .d (.fl (.bool ((decide (68719476736 < x.time)))))) rfl (og rfl (op_assign rfl rfl rfl)) ?_
            refine rg_done rfl ?_
            refine a_cond rfl (fun h10 => ?_) (fun h10 => ?_)
            · skip
              have h11 := t_dec h10
              refine a_rseq ?_
              refine rg_put (d := 2) (v := .d (.fl (.int .i64 12))) rfl (og rfl (op_assign rfl rfl rfl)) ?_
              refine rg_done rfl ?_
              refine a_ret ?_
              show ∃ ds, ResL _ _ _ ds ∧ RV.of ds = _
              refine ⟨[.fl (.int .i64 12)], (.cons (.tmp rfl (.d _)) .nil), ?_⟩
              have hu : pc x = 12 := by
                unfold pc; simp only [h1, h2, h3, h5, h8, h10, Bool.true_or, Bool.false_or, Bool.or_true, Bool.or_false, Bool.not_true, Bool.not_false, cond_true, cond_false, Bool.true_and, Bool.false_and, Bool.and_true, Bool.and_false] <;> rfl
              rw [hu]; rfl
            · skip
              have h12 := f_dec h10
              refine a_skip ?_
              show A _ _ _ _ _ _ _
              refine a_seq ?_
              refine a_rseq ?_
              refine rg_put (d := 32) (v := .pt 101 5) rfl (og rfl (of_eff (s_field_pt rfl Try.underlying24 rfl ti22 rfl rfl rfl) rfl)) ?_
              refine rg_put (d := 33) (v := .d (.sl 2 (List.map eLn x.lines))) rfl (og rfl (op_load_pt rfl Try.underlying22 rfl rfl rfl rfl rfl)) ?_
              refine rg_put (d := 34) (v := .d (.fl (.int .i64 (x.lines.length : Int)))) rfl (og rfl (s_len rfl Try.underlying22 rfl rfl)) ?_
              refine rg_put (d := 35) (v := .d (.fl (.int .i64 0))) rfl (og rfl (op_move rfl rfl rfl)) ?_
              refine rg_done rfl ?_
              refine a_block ?_
              refine a_loop (ι := Nat) (fun k => SS [(0, .d (.ag (eCg x))), (1, .pt 101 0), (5, .d (.fl (.bool ((sEq x.veh (⟨#[]⟩)))))), (14, .d (.fl (.bool ((decide (9 < x.cls)))))), (23, .d (.fl (.bool ((decide (68719476736 < x.time)))))), (33, .d (.sl 2 (List.map eLn x.lines))), (34, .d (.fl (.int .i64 (x.lines.length : Int)))), (35, .d (.fl (.int .i64 (k : Int))))] [(101, .bx 24 (eCg x))]) (fun k => k ≤ x.lines.length ∧ ∀ q, q < k → fitB (ix x.lines q).cents = true) (fun k => x.lines.length - k) 0 (⟨by omega, fun q h => by omega⟩) (imp_forget rfl ⟨rfl, rfl, rfl, rfl, rfl, rfl, rfl, (by first | rfl | exact ci (by omega) | exact ci (by simp) | exact cd (by simp) | simp), trivial⟩ ⟨rfl, trivial⟩) (fun k hok => ?_)
              obtain ⟨hk, hq⟩ := hok
              refine a_rseq ?_
              refine rg_put (d := 36) (v := .d (.fl (.bool ((decide ((k : Int) < (x.lines.length : Int))))))) rfl (og rfl (op_bin rfl rfl rfl (b_lss _ _ _ _) rfl)) ?_
              refine rg_done rfl ?_
              refine a_seq ?_
              refine a_cond rfl (fun h13 => ?_) (fun h13 => ?_)
              · skip
                have h14 := t_dec h13
                refine a_skip ?_
                show A _ _ _ _ _ _ _
                refine a_seq ?_
                refine a_block ?_
                refine a_rseq ?_
                refine rg_put (d := 37) (v := .el ((eLn (ix x.lines k)))) rfl (og rfl (s_index rfl Try.underlying22 ti82 rfl rfl (by omega) (row_at (by omega)) rfl)) ?_
                refine rg_put (d := 38) (v := .d (.ag (eLn (ix x.lines k)))) rfl (og rfl (of_eff (s_load_els rfl Try.underlying82 rfl ti82 rfl rfl rfl) rfl)) ?_
                refine rg_nam (d := 4) (v := .pt 102 0) (m := 102) (nw := [(102, .bx 82 ([.fl (.string (⟨#[]⟩)), .fl (.int .i64 0)]))]) rfl (og rfl (of_eff (s_alloc 102 rfl ti82 (by kernel_rfl) rfl) rfl)) rfl ?_
                refine rg_sto (nw := [(102, .bx 82 ((eLn (ix x.lines k))))]) rfl (og rfl (of_eff (s_store rfl rfl ti82 rfl rfl rfl rfl rfl rfl) rfl)) ?_
                refine rg_done rfl ?_
                refine a_rseq ?_
                refine rg_put (d := 39) (v := .pt 102 1) rfl (og rfl (of_eff (s_field_pt rfl Try.underlying82 rfl ti3 rfl rfl rfl) rfl)) ?_
                refine rg_put (d := 40) (v := .d (.fl (.int .i64 ((ix x.lines k).cents)))) rfl (og rfl (op_load_pt rfl Try.underlying3 rfl rfl rfl rfl rfl)) ?_
                refine rg_put (d := 41) (v := .d (.fl (.bool ((fitB ((ix x.lines k).cents)))))) rfl (og rfl (op_call rfl Try.func11 nm11 rfl (.cons rfl (.d _) .nil) (fit11 ((ix x.lines k).cents)) rfl)) ?_
                refine rg_put (d := 42) (v := .d (.fl (.bool ((!((fitB ((ix x.lines k).cents)))))))) rfl (og rfl (op_un rfl rfl (u_not _) rfl)) ?_
                refine rg_done rfl ?_
                refine a_cond rfl (fun h15 => ?_) (fun h15 => ?_)
                · skip
                  have h16 := t_not h15
                  refine a_rseq ?_
                  refine rg_put (d := 2) (v := .d (.fl (.int .i64 13))) rfl (og rfl (op_assign rfl rfl rfl)) ?_
                  refine rg_done rfl ?_
                  refine a_ret ?_
                  show ∃ ds, ResL _ _ _ ds ∧ RV.of ds = _
                  refine ⟨[.fl (.int .i64 13)], (.cons (.tmp rfl (.d _)) .nil), ?_⟩
                  have hnf := nfit_yes (by omega) h16
                  have hu : pc x = 13 := by
                    unfold pc; simp only [h1, h2, h3, h5, h8, h10, h13, h15, h16, hnf, Bool.true_or, Bool.false_or, Bool.or_true, Bool.or_false, Bool.not_true, Bool.not_false, cond_true, cond_false, Bool.true_and, Bool.false_and, Bool.and_true, Bool.and_false] <;> rfl
                  rw [hu]; rfl
                · skip
                  have h17 := f_not h15
                  refine a_skip ?_
                  show A _ _ _ _ _ _ _
                  refine a_region ?_
                  refine rg_put (d := 43) (v := .d (.fl (.int .i64 (((k : Int) + 1))))) rfl (og rfl (op_bin rfl rfl rfl (fun x y w => b_add64 _ _ _ x y w (by omega)) rfl)) ?_
                  refine rg_put (d := 35) (v := .d (.fl (.int .i64 (((k : Int) + 1))))) rfl (og rfl (op_move rfl rfl rfl)) ?_
                  refine rg_done rfl ?_
                  have hx : fitB (ix x.lines k).cents = true := h17
                  show ∃ i, _ ∧ _ ∧ Imp _ _ _ _ _
                  refine ⟨k + 1, ⟨by omega, fun q h => (Nat.lt_succ_iff_lt_or_eq.1 h).elim (hq q) (fun e => by rw [e]; exact hx)⟩, by omega, imp_forget rfl ⟨rfl, rfl, rfl, rfl, rfl, rfl, rfl, (by first | rfl | exact ci (by omega) | exact ci (by simp) | exact cd (by simp) | simp), trivial⟩ ⟨rfl, trivial⟩⟩
              · skip
                have h18 := f_dec h13
                refine a_exit ?_
                show A _ _ _ _ _ _ _
                refine a_seq ?_
                refine a_rseq ?_
                have hfa : ∀ q, q < x.lines.length → fitB (ix x.lines q).cents = true := fun q h => hq q (by omega)
                have hnf := nfit_no hfa
                refine rg_put (d := 44) (v := .pt 101 6) rfl (og rfl (of_eff (s_field_pt rfl Try.underlying24 rfl ti3 rfl rfl rfl) rfl)) ?_
                refine rg_put (d := 45) (v := .d (.fl (.int .i64 x.cents))) rfl (og rfl (op_load_pt rfl Try.underlying3 rfl rfl rfl rfl rfl)) ?_
                refine rg_put (d := 46) (v := .d (.fl (.bool ((decide (x.cents < 0)))))) rfl (og rfl (op_bin rfl rfl rfl (b_lss _ _ _ _) rfl)) ?_
                refine rg_put (d := 47) (v := .d (.fl (.bool ((decide (x.cents < 0)))))) rfl (og rfl (op_move rfl rfl rfl)) ?_
                rcases fot ((decide (x.cents < 0))) with h19 | h19
                · skip
                  have h20 := f_dec h19
                  refine rg_put (d := 48) (v := .pt 101 6) rfl (oy rfl rfl rfl h19 (of_eff (s_field_pt rfl Try.underlying24 rfl ti3 rfl rfl rfl) rfl)) ?_
                  refine rg_put (d := 49) (v := .d (.fl (.int .i64 x.cents))) rfl (oy rfl rfl rfl h19 (op_load_pt rfl Try.underlying3 rfl rfl rfl rfl rfl)) ?_
                  refine rg_put (d := 50) (v := .d (.fl (.bool (fitB x.cents)))) rfl (oy rfl rfl rfl h19 (op_call rfl Try.func11 nm11 rfl (.cons rfl (.d _) .nil) (fit11 x.cents) rfl)) ?_
                  refine rg_put (d := 51) (v := .d (.fl (.bool ((!(fitB x.cents)))))) rfl (oy rfl rfl rfl h19 (op_un rfl rfl (u_not _) rfl)) ?_
                  refine rg_put (d := 52) (v := .d (.fl (.bool ((!(fitB x.cents)))))) rfl (og rfl (op_pick rfl rfl (by rw [h19]; rfl) rfl)) ?_
                  refine rg_done rfl ?_
                  refine a_cond rfl (fun h21 => ?_) (fun h21 => ?_)
                  · skip
                    have h22 := t_not h21
                    refine a_rseq ?_
                    refine rg_put (d := 2) (v := .d (.fl (.int .i64 13))) rfl (og rfl (op_assign rfl rfl rfl)) ?_
                    refine rg_done rfl ?_
                    refine a_ret ?_
                    show ∃ ds, ResL _ _ _ ds ∧ RV.of ds = _
                    refine ⟨[.fl (.int .i64 13)], (.cons (.tmp rfl (.d _)) .nil), ?_⟩
                    have hu : pc x = 13 := by
                      unfold pc; simp only [h1, h2, h3, h5, h8, h10, h13, h19, h21, h22, hnf, Bool.true_or, Bool.false_or, Bool.or_true, Bool.or_false, Bool.not_true, Bool.not_false, cond_true, cond_false, Bool.true_and, Bool.false_and, Bool.and_true, Bool.and_false] <;> rfl
                    rw [hu]; rfl
                  · skip
                    have h23 := f_not h21
                    refine a_skip ?_
                    show A _ _ _ _ _ _ _
                    refine a_seq ?_
                    refine a_rseq ?_
                    have hca : 0 ≤ x.cents ∧ x.cents ≤ 1125899906842624 := by have := fit_t h23; omega
                    refine rg_put (d := 53) (v := .pt 101 5) rfl (og rfl (of_eff (s_field_pt rfl Try.underlying24 rfl ti22 rfl rfl rfl) rfl)) ?_
                    refine rg_put (d := 54) (v := .d (.sl 2 (List.map eLn x.lines))) rfl (og rfl (op_load_pt rfl Try.underlying22 rfl rfl rfl rfl rfl)) ?_
                    refine rg_put (d := 55) (v := .pt 101 6) rfl (og rfl (of_eff (s_field_pt rfl Try.underlying24 rfl ti3 rfl rfl rfl) rfl)) ?_
                    refine rg_put (d := 56) (v := .d (.fl (.int .i64 x.cents))) rfl (og rfl (op_load_pt rfl Try.underlying3 rfl rfl rfl rfl rfl)) ?_
                    refine rg_put (d := 57) (v := .d (.fl (.bool (adds x.lines x.cents)))) rfl (og rfl (op_call rfl Try.func12 nm12 rfl (.cons rfl (.d _) (.cons rfl (.d _) .nil)) (adds12 x.lines x.cents (by omega) hfa hca) rfl)) ?_
                    refine rg_put (d := 58) (v := .d (.fl (.bool ((!(adds x.lines x.cents)))))) rfl (og rfl (op_un rfl rfl (u_not _) rfl)) ?_
                    refine rg_done rfl ?_
                    refine a_cond rfl (fun h24 => ?_) (fun h24 => ?_)
                    · skip
                      have h25 := t_not h24
                      refine a_rseq ?_
                      refine rg_put (d := 2) (v := .d (.fl (.int .i64 8))) rfl (og rfl (op_assign rfl rfl rfl)) ?_
                      refine rg_done rfl ?_
                      refine a_ret ?_
                      show ∃ ds, ResL _ _ _ ds ∧ RV.of ds = _
                      refine ⟨[.fl (.int .i64 8)], (.cons (.tmp rfl (.d _)) .nil), ?_⟩
                      have hu : pc x = 8 := by
                        unfold pc; simp only [h1, h2, h3, h5, h8, h10, h13, h19, h21, h23, h24, h25, hnf, Bool.true_or, Bool.false_or, Bool.or_true, Bool.or_false, Bool.not_true, Bool.not_false, cond_true, cond_false, Bool.true_and, Bool.false_and, Bool.and_true, Bool.and_false] <;> rfl
                      rw [hu]; rfl
                    · skip
                      have h26 := f_not h24
                      refine a_skip ?_
                      show A _ _ _ _ _ _ _
                      refine a_rseq ?_
                      refine rg_put (d := 2) (v := .d (.fl (.int .i64 0))) rfl (og rfl (op_assign rfl rfl rfl)) ?_
                      refine rg_done rfl ?_
                      refine a_ret ?_
                      show ∃ ds, ResL _ _ _ ds ∧ RV.of ds = _
                      refine ⟨[.fl (.int .i64 0)], (.cons (.tmp rfl (.d _)) .nil), ?_⟩
                      have hu : pc x = 0 := by
                        unfold pc; simp only [h1, h2, h3, h5, h8, h10, h13, h19, h21, h23, h24, h26, hnf, Bool.true_or, Bool.false_or, Bool.or_true, Bool.or_false, Bool.not_true, Bool.not_false, cond_true, cond_false, Bool.true_and, Bool.false_and, Bool.and_true, Bool.and_false] <;> rfl
                      rw [hu]; rfl
                · skip
                  have h27 := t_dec h19
                  refine rg_put (d := 48) (v := .d (.fl undef)) rfl (on rfl rfl rfl h19) ?_
                  refine rg_put (d := 49) (v := .d (.fl undef)) rfl (on rfl rfl rfl h19) ?_
                  refine rg_put (d := 50) (v := .d (.fl undef)) rfl (on rfl rfl rfl h19) ?_
                  refine rg_put (d := 51) (v := .d (.fl undef)) rfl (on rfl rfl rfl h19) ?_
                  refine rg_put (d := 52) (v := .d (.fl (.bool true))) rfl (og rfl (op_pick rfl rfl (by rw [h19]; rfl) rfl)) ?_
                  refine rg_done rfl ?_
                  refine a_condK rfl rfl ?_
                  refine a_rseq ?_
                  refine rg_put (d := 2) (v := .d (.fl (.int .i64 13))) rfl (og rfl (op_assign rfl rfl rfl)) ?_
                  refine rg_done rfl ?_
                  refine a_ret ?_
                  show ∃ ds, ResL _ _ _ ds ∧ RV.of ds = _
                  refine ⟨[.fl (.int .i64 13)], (.cons (.tmp rfl (.d _)) .nil), ?_⟩
                  have hu : pc x = 13 := by
                    unfold pc; simp only [h1, h2, h3, h5, h8, h10, h13, h19, hnf, Bool.true_or, Bool.false_or, Bool.or_true, Bool.or_false, Bool.not_true, Bool.not_false, cond_true, cond_false, Bool.true_and, Bool.false_and, Bool.and_true, Bool.and_false] <;> rfl
                  rw [hu]; rfl
          · skip
            have h28 := t_dec h8
            refine rg_put (d := 28) (v := .d (.fl undef)) rfl (on rfl rfl rfl h8) ?_
            refine rg_put (d := 29) (v := .d (.fl undef)) rfl (on rfl rfl rfl h8) ?_
            refine rg_put (d := 30) (v := .d (.fl undef)) rfl (on rfl rfl rfl h8) ?_
            refine rg_put (d := 31) (v := .d (.fl (.bool true))) rfl (og rfl (op_pick rfl rfl (by rw [h8]; rfl) rfl)) ?_
            refine rg_put (d := 23) (v := .d (.fl (.bool true))) rfl (og rfl (op_assign rfl rfl rfl)) ?_
            refine rg_done rfl ?_
            refine a_condK rfl rfl ?_
            refine a_rseq ?_
            refine rg_put (d := 2) (v := .d (.fl (.int .i64 12))) rfl (og rfl (op_assign rfl rfl rfl)) ?_
            refine rg_done rfl ?_
            refine a_ret ?_
            show ∃ ds, ResL _ _ _ ds ∧ RV.of ds = _
            refine ⟨[.fl (.int .i64 12)], (.cons (.tmp rfl (.d _)) .nil), ?_⟩
            have hu : pc x = 12 := by
              unfold pc; simp only [h1, h2, h3, h5, h8, Bool.true_or, Bool.false_or, Bool.or_true, Bool.or_false, Bool.not_true, Bool.not_false, cond_true, cond_false, Bool.true_and, Bool.false_and, Bool.and_true, Bool.and_false] <;> rfl
            rw [hu]; rfl
      · skip
        have h29 := t_dec h3
        refine rg_put (d := 19) (v := .d (.fl undef)) rfl (on rfl rfl rfl h3) ?_
        refine rg_put (d := 20) (v := .d (.fl undef)) rfl (on rfl rfl rfl h3) ?_
        refine rg_put (d := 21) (v := .d (.fl undef)) rfl (on rfl rfl rfl h3) ?_
        refine rg_put (d := 22) (v := .d (.fl (.bool true))) rfl (og rfl (op_pick rfl rfl (by rw [h3]; rfl) rfl)) ?_
        refine rg_put (d := 14) (v := .d (.fl (.bool true))) rfl (og rfl (op_assign rfl rfl rfl)) ?_
        refine rg_done rfl ?_
        refine a_condK rfl rfl ?_
        refine a_rseq ?_
        refine rg_put (d := 2) (v := .d (.fl (.int .i64 20))) rfl (og rfl (op_assign rfl rfl rfl)) ?_
        refine rg_done rfl ?_
        refine a_ret ?_
        show ∃ ds, ResL _ _ _ ds ∧ RV.of ds = _
        refine ⟨[.fl (.int .i64 20)], (.cons (.tmp rfl (.d _)) .nil), ?_⟩
        have hu : pc x = 20 := by
          unfold pc; simp only [h1, h2, h3, Bool.true_or, Bool.false_or, Bool.or_true, Bool.or_false, Bool.not_true, Bool.not_false, cond_true, cond_false, Bool.true_and, Bool.false_and, Bool.and_true, Bool.and_false] <;> rfl
        rw [hu]; rfl
  · skip
    refine rg_put (d := 10) (v := .d (.fl undef)) rfl (on rfl rfl rfl h1) ?_
    refine rg_put (d := 11) (v := .d (.fl undef)) rfl (on rfl rfl rfl h1) ?_
    refine rg_put (d := 12) (v := .d (.fl undef)) rfl (on rfl rfl rfl h1) ?_
    refine rg_put (d := 13) (v := .d (.fl (.bool true))) rfl (og rfl (op_pick rfl rfl (by rw [h1]; rfl) rfl)) ?_
    refine rg_put (d := 5) (v := .d (.fl (.bool true))) rfl (og rfl (op_assign rfl rfl rfl)) ?_
    refine rg_done rfl ?_
    refine a_condK rfl rfl ?_
    refine a_rseq ?_
    refine rg_put (d := 2) (v := .d (.fl (.int .i64 6))) rfl (og rfl (op_assign rfl rfl rfl)) ?_
    refine rg_done rfl ?_
    refine a_ret ?_
    show ∃ ds, ResL _ _ _ ds ∧ RV.of ds = _
    refine ⟨[.fl (.int .i64 6)], (.cons (.tmp rfl (.d _)) .nil), ?_⟩
    have hu : pc x = 6 := by
      unfold pc; simp only [h1, Bool.true_or, Bool.false_or, Bool.or_true, Bool.or_false, Bool.not_true, Bool.not_false, cond_true, cond_false, Bool.true_and, Bool.false_and, Bool.and_true, Bool.and_false] <;> rfl
    rw [hu]; rfl
set_option maxHeartbeats 4000000 in
set_option maxRecDepth 100000 in
theorem pc6 (x : Cg) (hl : x.lines.length ≤ 100) : Ctr Try.prog 6 [.ag (eCg x)] (.d (.fl (.int .i64 (pc x)))) := by
  refine ctr (n := 67) (rs := #[.tmp 2]) (L := [(0, .d (.ag (eCg x)))]) Try.func6 rfl rfl rfl rfl rfl (fun w0 U0 => ?_)
  refine a_rseq ?_
  refine rg_nam (d := 1) (v := .pt 101 0) (m := 101) (nw := [(101, .bx 24 (eCg x))]) rfl (og rfl (of_eff (op_box 101 rfl rfl rfl rfl) rfl)) rfl ?_
  refine rg_put (d := 2) (v := .d (.fl (.int .i64 0))) rfl (og rfl (op_assign rfl rfl rfl)) ?_
  refine rg_done rfl ?_
  refine a_seq ?_
  refine a_rseq ?_
  refine rg_put (d := 6) (v := .pt 101 0) rfl (og rfl (of_eff (s_field_pt rfl Try.underlying24 rfl ti9 rfl rfl rfl) rfl)) ?_
  refine rg_put (d := 7) (v := .d (.fl (.string x.key))) rfl (og rfl (op_load_pt rfl Try.underlying9 rfl rfl rfl rfl rfl)) ?_
  refine rg_put (d := 8) (v := .d (.fl (.bool ((sEq x.key (⟨#[]⟩)))))) rfl (og rfl (op_bin rfl rfl rfl (b_seq _ _ _) rfl)) ?_
  refine rg_put (d := 9) (v := .d (.fl (.bool ((sEq x.key (⟨#[]⟩)))))) rfl (og rfl (op_move rfl rfl rfl)) ?_
  rcases fot ((sEq x.key (⟨#[]⟩))) with h1 | h1
  · skip
    refine rg_put (d := 10) (v := .pt 101 1) rfl (oy rfl rfl rfl h1 (of_eff (s_field_pt rfl Try.underlying24 rfl ti9 rfl rfl rfl) rfl)) ?_
    refine rg_put (d := 11) (v := .d (.fl (.string x.veh))) rfl (oy rfl rfl rfl h1 (op_load_pt rfl Try.underlying9 rfl rfl rfl rfl rfl)) ?_
    refine rg_put (d := 12) (v := .d (.fl (.bool ((sEq x.veh (⟨#[]⟩)))))) rfl (oy rfl rfl rfl h1 (op_bin rfl rfl rfl (b_seq _ _ _) rfl)) ?_
    refine rg_put (d := 13) (v := .d (.fl (.bool ((sEq x.veh (⟨#[]⟩)))))) rfl (og rfl (op_pick rfl rfl (by rw [h1]; rfl) rfl)) ?_
    refine rg_done rfl ?_
    refine a_cond rfl (fun h2 => ?_) (fun h2 => ?_)
    · skip
      refine a_rseq ?_
      refine rg_put (d := 2) (v := .d (.fl (.int .i64 6))) rfl (og rfl (op_assign rfl rfl rfl)) ?_
      refine rg_done rfl ?_
      refine a_ret ?_
      show ∃ ds, ResL _ _ _ ds ∧ RV.of ds = _
      refine ⟨[.fl (.int .i64 6)], (.cons (.tmp rfl (.d _)) .nil), ?_⟩
      have hu : pc x = 6 := by
        unfold pc; simp only [h1, h2, Bool.true_or, Bool.false_or, Bool.or_true, Bool.or_false, Bool.not_true, Bool.not_false, cond_true, cond_false, Bool.true_and, Bool.false_and, Bool.and_true, Bool.and_false] <;> rfl
      rw [hu]; rfl
    · skip
      refine a_skip ?_
      show A _ _ _ _ _ _ _
      refine a_seq ?_
      refine a_rseq ?_
      refine rg_put (d := 14) (v := .pt 101 3) rfl (og rfl (of_eff (s_field_pt rfl Try.underlying24 rfl ti3 rfl rfl rfl) rfl)) ?_
      refine rg_put (d := 15) (v := .d (.fl (.int .i64 x.cls))) rfl (og rfl (op_load_pt rfl Try.underlying3 rfl rfl rfl rfl rfl)) ?_
      refine rg_put (d := 16) (v := .d (.fl (.bool ((decide (x.cls < 0)))))) rfl (og rfl (op_bin rfl rfl rfl (b_lss _ _ _ _) rfl)) ?_
      refine rg_put (d := 17) (v := .d (.fl (.bool ((decide (x.cls < 0)))))) rfl (og rfl (op_move rfl rfl rfl)) ?_
      rcases fot ((decide (x.cls < 0))) with h3 | h3
      · skip
        have h4 := f_dec h3
        refine rg_put (d := 18) (v := .pt 101 3) rfl (oy rfl rfl rfl h3 (of_eff (s_field_pt rfl Try.underlying24 rfl ti3 rfl rfl rfl) rfl)) ?_
        refine rg_put (d := 19) (v := .d (.fl (.int .i64 x.cls))) rfl (oy rfl rfl rfl h3 (op_load_pt rfl Try.underlying3 rfl rfl rfl rfl rfl)) ?_
        refine rg_put (d := 20) (v := .d (.fl (.bool ((decide (9 < x.cls)))))) rfl (oy rfl rfl rfl h3 (op_bin rfl rfl rfl (b_gtr _ _ _ _) rfl)) ?_
        refine rg_put (d := 21) (v := .d (.fl (.bool ((decide (9 < x.cls)))))) rfl (og rfl (op_pick rfl rfl (by rw [h3]; rfl) rfl)) ?_
        refine rg_done rfl ?_
        refine a_cond rfl (fun h5 => ?_) (fun h5 => ?_)
        · skip
          have h6 := t_dec h5
          refine a_rseq ?_
          refine rg_put (d := 2) (v := .d (.fl (.int .i64 20))) rfl (og rfl (op_assign rfl rfl rfl)) ?_
          refine rg_done rfl ?_
          refine a_ret ?_
          show ∃ ds, ResL _ _ _ ds ∧ RV.of ds = _
          refine ⟨[.fl (.int .i64 20)], (.cons (.tmp rfl (.d _)) .nil), ?_⟩
          have hu : pc x = 20 := by
            unfold pc; simp only [h1, h2, h3, h5, Bool.true_or, Bool.false_or, Bool.or_true, Bool.or_false, Bool.not_true, Bool.not_false, cond_true, cond_false, Bool.true_and, Bool.false_and, Bool.and_true, Bool.and_false] <;> rfl
          rw [hu]; rfl
        · skip
          have h7 := f_dec h5
          refine a_skip ?_
          show A _ _ _ _ _ _ _
          refine a_seq ?_
          refine a_rseq ?_
          refine rg_put (d := 22) (v := .pt 101 4) rfl (og rfl (of_eff (s_field_pt rfl Try.underlying24 rfl ti3 rfl rfl rfl) rfl)) ?_
          refine rg_put (d := 23) (v := .d (.fl (.int .i64 x.time))) rfl (og rfl (op_load_pt rfl Try.underlying3 rfl rfl rfl rfl rfl)) ?_
          refine rg_put (d := 24) (v := .d (.fl (.bool ((decide (x.time < 0)))))) rfl (og rfl (op_bin rfl rfl rfl (b_lss _ _ _ _) rfl)) ?_
          refine rg_put (d := 25) (v := .d (.fl (.bool ((decide (x.time < 0)))))) rfl (og rfl (op_move rfl rfl rfl)) ?_
          rcases fot ((decide (x.time < 0))) with h8 | h8
          · skip
            have h9 := f_dec h8
            refine rg_put (d := 26) (v := .pt 101 4) rfl (oy rfl rfl rfl h8 (of_eff (s_field_pt rfl Try.underlying24 rfl ti3 rfl rfl rfl) rfl)) ?_
            refine rg_put (d := 27) (v := .d (.fl (.int .i64 x.time))) rfl (oy rfl rfl rfl h8 (op_load_pt rfl Try.underlying3 rfl rfl rfl rfl rfl)) ?_
            refine rg_put (d := 28) (v := .d (.fl (.bool ((decide (68719476736 < x.time)))))) rfl (oy rfl rfl rfl h8 (op_bin rfl rfl rfl (b_gtr _ _ _ _) rfl)) ?_
            refine rg_put (d := 29) (v := .d (.fl (.bool ((decide (68719476736 < x.time)))))) rfl (og rfl (op_pick rfl rfl (by rw [h8]; rfl) rfl)) ?_
            refine rg_done rfl ?_
            refine a_cond rfl (fun h10 => ?_) (fun h10 => ?_)
            · skip
              have h11 := t_dec h10
              refine a_rseq ?_
              refine rg_put (d := 2) (v := .d (.fl (.int .i64 12))) rfl (og rfl (op_assign rfl rfl rfl)) ?_
              refine rg_done rfl ?_
              refine a_ret ?_
              show ∃ ds, ResL _ _ _ ds ∧ RV.of ds = _
              refine ⟨[.fl (.int .i64 12)], (.cons (.tmp rfl (.d _)) .nil), ?_⟩
              have hu : pc x = 12 := by
                unfold pc; simp only [h1, h2, h3, h5, h8, h10, Bool.true_or, Bool.false_or, Bool.or_true, Bool.or_false, Bool.not_true, Bool.not_false, cond_true, cond_false, Bool.true_and, Bool.false_and, Bool.and_true, Bool.and_false] <;> rfl
              rw [hu]; rfl
            · skip
              have h12 := f_dec h10
              refine a_skip ?_
              show A _ _ _ _ _ _ _
              refine a_seq ?_
              refine a_rseq ?_
              refine rg_put (d := 3) (v := .d (.fl (.int .i64 0))) rfl (og rfl (op_assign rfl rfl rfl)) ?_
              refine rg_done rfl ?_
              refine a_block ?_
              refine a_loop (ι := Nat) (fun k => SS [(0, .d (.ag (eCg x))), (1, .pt 101 0), (13, .d (.fl (.bool ((sEq x.veh (⟨#[]⟩)))))), (21, .d (.fl (.bool ((decide (9 < x.cls)))))), (29, .d (.fl (.bool ((decide (68719476736 < x.time)))))), (3, .d (.fl (.int .i64 (k : Int))))] [(101, .bx 24 (eCg x))]) (fun k => k ≤ x.lines.length ∧ ∀ q, q < k → fitB (ix x.lines q).cents = true) (fun k => x.lines.length - k) 0 (⟨by omega, fun q h => by omega⟩) (imp_forget rfl ⟨rfl, rfl, rfl, rfl, rfl, (by first | rfl | exact ci (by omega) | exact ci (by simp) | exact cd (by simp) | simp), trivial⟩ ⟨rfl, trivial⟩) (fun k hok => ?_)
              obtain ⟨hk, hq⟩ := hok
              refine a_seq ?_
              refine a_rseq ?_
              refine rg_put (d := 30) (v := .d (.fl (.int .i64 (k : Int)))) rfl (og rfl (op_move rfl rfl rfl)) ?_
              refine rg_put (d := 31) (v := .pt 101 5) rfl (og rfl (of_eff (s_field_pt rfl Try.underlying24 rfl ti22 rfl rfl rfl) rfl)) ?_
              refine rg_put (d := 32) (v := .d (.sl 2 (List.map eLn x.lines))) rfl (og rfl (op_load_pt rfl Try.underlying22 rfl rfl rfl rfl rfl)) ?_
              refine rg_put (d := 33) (v := .d (.fl (.int .i64 (x.lines.length : Int)))) rfl (og rfl (s_len rfl Try.underlying22 rfl rfl)) ?_
              refine rg_put (d := 34) (v := .d (.fl (.bool ((decide ((k : Int) < (x.lines.length : Int))))))) rfl (og rfl (op_bin rfl rfl rfl (b_lss _ _ _ _) rfl)) ?_
              refine rg_done rfl ?_
              refine a_cond rfl (fun h13 => ?_) (fun h13 => ?_)
              · skip
                have h14 := t_dec h13
                refine a_skip ?_
                show A _ _ _ _ _ _ _
                refine a_seq ?_
                refine a_block ?_
                refine a_rseq ?_
                refine rg_put (d := 37) (v := .pt 101 5) rfl (og rfl (of_eff (s_field_pt rfl Try.underlying24 rfl ti22 rfl rfl rfl) rfl)) ?_
                refine rg_put (d := 38) (v := .d (.sl 2 (List.map eLn x.lines))) rfl (og rfl (op_load_pt rfl Try.underlying22 rfl rfl rfl rfl rfl)) ?_
                refine rg_put (d := 39) (v := .d (.fl (.int .i64 (k : Int)))) rfl (og rfl (op_move rfl rfl rfl)) ?_
                refine rg_put (d := 40) (v := .el ((eLn (ix x.lines k)))) rfl (og rfl (s_index rfl Try.underlying22 ti82 rfl rfl (by omega) (row_at (by omega)) rfl)) ?_
                refine rg_put (d := 41) (v := .el ((List.drop 1 ((eLn (ix x.lines k)))))) rfl (og rfl (of_eff (s_field_el rfl Try.underlying82 rfl ti3 rfl rfl rfl) rfl)) ?_
                refine rg_put (d := 42) (v := .d (.fl (.int .i64 ((ix x.lines k).cents)))) rfl (og rfl (op_load_el rfl Try.underlying3 rfl rfl rfl rfl)) ?_
                refine rg_put (d := 43) (v := .d (.fl (.bool ((fitB ((ix x.lines k).cents)))))) rfl (og rfl (op_call rfl Try.func13 nm13 rfl (.cons rfl (.d _) .nil) (fit13 ((ix x.lines k).cents)) rfl)) ?_
                refine rg_put (d := 44) (v := .d (.fl (.bool ((!((fitB ((ix x.lines k).cents)))))))) rfl (og rfl (op_un rfl rfl (u_not _) rfl)) ?_
                refine rg_done rfl ?_
                refine a_cond rfl (fun h15 => ?_) (fun h15 => ?_)
                · skip
                  have h16 := t_not h15
                  refine a_rseq ?_
                  refine rg_put (d := 2) (v := .d (.fl (.int .i64 13))) rfl (og rfl (op_assign rfl rfl rfl)) ?_
                  refine rg_done rfl ?_
                  refine a_ret ?_
                  show ∃ ds, ResL _ _ _ ds ∧ RV.of ds = _
                  refine ⟨[.fl (.int .i64 13)], (.cons (.tmp rfl (.d _)) .nil), ?_⟩
                  have hnf := nfit_yes (by omega) h16
                  have hu : pc x = 13 := by
                    unfold pc; simp only [h1, h2, h3, h5, h8, h10, h13, h15, h16, hnf, Bool.true_or, Bool.false_or, Bool.or_true, Bool.or_false, Bool.not_true, Bool.not_false, cond_true, cond_false, Bool.true_and, Bool.false_and, Bool.and_true, Bool.and_false] <;> rfl
                  rw [hu]; rfl
                · skip
                  have h17 := f_not h15
                  refine a_skip ?_
                  show A _ _ _ _ _ _ _
                  refine a_region ?_
                  refine rg_put (d := 35) (v := .d (.fl (.int .i64 (k : Int)))) rfl (og rfl (op_move rfl rfl rfl)) ?_
                  refine rg_put (d := 36) (v := .d (.fl (.int .i64 (((k : Int) + 1))))) rfl (og rfl (op_bin rfl rfl rfl (fun x y w => b_add64 _ _ _ x y w (by omega)) rfl)) ?_
                  refine rg_put (d := 3) (v := .d (.fl (.int .i64 (((k : Int) + 1))))) rfl (og rfl (op_assign rfl rfl rfl)) ?_
                  refine rg_done rfl ?_
                  have hx : fitB (ix x.lines k).cents = true := h17
                  show ∃ i, _ ∧ _ ∧ Imp _ _ _ _ _
                  refine ⟨k + 1, ⟨by omega, fun q h => (Nat.lt_succ_iff_lt_or_eq.1 h).elim (hq q) (fun e => by rw [e]; exact hx)⟩, by omega, imp_forget rfl ⟨rfl, rfl, rfl, rfl, rfl, (by first | rfl | exact ci (by omega) | exact ci (by simp) | exact cd (by simp) | simp), trivial⟩ ⟨rfl, trivial⟩⟩
              · skip
                have h18 := f_dec h13
                refine a_exit ?_
                show A _ _ _ _ _ _ _
                refine a_seq ?_
                refine a_rseq ?_
                have hfa : ∀ q, q < x.lines.length → fitB (ix x.lines q).cents = true := fun q h => hq q (by omega)
                have hnf := nfit_no hfa
                refine rg_put (d := 45) (v := .pt 101 6) rfl (og rfl (of_eff (s_field_pt rfl Try.underlying24 rfl ti3 rfl rfl rfl) rfl)) ?_
                refine rg_put (d := 46) (v := .d (.fl (.int .i64 x.cents))) rfl (og rfl (op_load_pt rfl Try.underlying3 rfl rfl rfl rfl rfl)) ?_
                refine rg_put (d := 47) (v := .d (.fl (.bool ((decide (x.cents < 0)))))) rfl (og rfl (op_bin rfl rfl rfl (b_lss _ _ _ _) rfl)) ?_
                refine rg_put (d := 48) (v := .d (.fl (.bool ((decide (x.cents < 0)))))) rfl (og rfl (op_move rfl rfl rfl)) ?_
                rcases fot ((decide (x.cents < 0))) with h19 | h19
                · skip
                  have h20 := f_dec h19
                  refine rg_put (d := 49) (v := .pt 101 6) rfl (oy rfl rfl rfl h19 (of_eff (s_field_pt rfl Try.underlying24 rfl ti3 rfl rfl rfl) rfl)) ?_
                  refine rg_put (d := 50) (v := .d (.fl (.int .i64 x.cents))) rfl (oy rfl rfl rfl h19 (op_load_pt rfl Try.underlying3 rfl rfl rfl rfl rfl)) ?_
                  refine rg_put (d := 51) (v := .d (.fl (.bool ((decide (1125899906842624 < x.cents)))))) rfl (oy rfl rfl rfl h19 (op_bin rfl rfl rfl (b_gtr _ _ _ _) rfl)) ?_
                  refine rg_put (d := 52) (v := .d (.fl (.bool ((decide (1125899906842624 < x.cents)))))) rfl (og rfl (op_pick rfl rfl (by rw [h19]; rfl) rfl)) ?_
                  refine rg_done rfl ?_
                  refine a_cond rfl (fun h21 => ?_) (fun h21 => ?_)
                  · skip
                    have h22 := t_dec h21
                    refine a_rseq ?_
                    refine rg_put (d := 2) (v := .d (.fl (.int .i64 13))) rfl (og rfl (op_assign rfl rfl rfl)) ?_
                    refine rg_done rfl ?_
                    refine a_ret ?_
                    show ∃ ds, ResL _ _ _ ds ∧ RV.of ds = _
                    refine ⟨[.fl (.int .i64 13)], (.cons (.tmp rfl (.d _)) .nil), ?_⟩
                    have hfc : fitB x.cents = false := by rw [Bool.eq_false_iff]; intro h; have := fit_t h; omega
                    have hu : pc x = 13 := by
                      unfold pc; simp only [h1, h2, h3, h5, h8, h10, h13, h19, h21, hnf, hfc, Bool.true_or, Bool.false_or, Bool.or_true, Bool.or_false, Bool.not_true, Bool.not_false, cond_true, cond_false, Bool.true_and, Bool.false_and, Bool.and_true, Bool.and_false] <;> rfl
                    rw [hu]; rfl
                  · skip
                    have h23 := f_dec h21
                    refine a_skip ?_
                    show A _ _ _ _ _ _ _
                    refine a_rseq ?_
                    refine rg_put (d := 54) (v := .pt 101 5) rfl (og rfl (of_eff (s_field_pt rfl Try.underlying24 rfl ti22 rfl rfl rfl) rfl)) ?_
                    refine rg_put (d := 55) (v := .d (.sl 2 (List.map eLn x.lines))) rfl (og rfl (op_load_pt rfl Try.underlying22 rfl rfl rfl rfl rfl)) ?_
                    refine rg_put (d := 56) (v := .tu [.fl (.int .i64 ((lnR x.lines).1)), .fl (.int .i64 ((lnR x.lines).2))]) rfl (og rfl (op_call rfl Try.func14 nm14 rfl (.cons rfl (.d _) .nil) (lines14 x.lines (by omega) hfa) rfl)) ?_
                    refine rg_put (d := 53) (v := .tu [.fl (.int .i64 ((lnR x.lines).1)), .fl (.int .i64 ((lnR x.lines).2))]) rfl (og rfl (op_move rfl rfl rfl)) ?_
                    refine rg_put (d := 57) (v := .d (.fl (.int .i64 ((lnR x.lines).1)))) rfl (og rfl (op_extract rfl rfl rfl rfl)) ?_
                    refine rg_put (d := 58) (v := .d (.fl (.int .i64 ((lnR x.lines).2)))) rfl (og rfl (op_extract rfl rfl rfl rfl)) ?_
                    refine rg_put (d := 4) (v := .d (.fl (.int .i64 ((lnR x.lines).1)))) rfl (og rfl (op_assign rfl rfl rfl)) ?_
                    refine rg_put (d := 5) (v := .d (.fl (.int .i64 ((lnR x.lines).2)))) rfl (og rfl (op_assign rfl rfl rfl)) ?_
                    refine rg_done rfl ?_
                    refine a_seq ?_
                    refine a_rseq ?_
                    refine rg_put (d := 59) (v := .d (.fl (.int .i64 ((lnR x.lines).2)))) rfl (og rfl (op_move rfl rfl rfl)) ?_
                    refine rg_put (d := 60) (v := .d (.fl (.bool (((lnR x.lines).2 != 0))))) rfl (og rfl (op_bin rfl rfl rfl (b_neq _ _ _ _) rfl)) ?_
                    refine rg_put (d := 61) (v := .d (.fl (.bool (((lnR x.lines).2 != 0))))) rfl (og rfl (op_move rfl rfl rfl)) ?_
                    rcases fot (((lnR x.lines).2 != 0)) with h24 | h24
                    · skip
                      have h25 := f_bne h24
                      refine rg_put (d := 62) (v := .d (.fl (.int .i64 ((lnR x.lines).1)))) rfl (oy rfl rfl rfl h24 (op_move rfl rfl rfl)) ?_
                      refine rg_put (d := 63) (v := .pt 101 6) rfl (oy rfl rfl rfl h24 (of_eff (s_field_pt rfl Try.underlying24 rfl ti3 rfl rfl rfl) rfl)) ?_
                      refine rg_put (d := 64) (v := .d (.fl (.int .i64 x.cents))) rfl (oy rfl rfl rfl h24 (op_load_pt rfl Try.underlying3 rfl rfl rfl rfl rfl)) ?_
                      refine rg_put (d := 65) (v := .d (.fl (.bool (((lnR x.lines).1 != x.cents))))) rfl (oy rfl rfl rfl h24 (op_bin rfl rfl rfl (b_neq _ _ _ _) rfl)) ?_
                      refine rg_put (d := 66) (v := .d (.fl (.bool (((lnR x.lines).1 != x.cents))))) rfl (og rfl (op_pick rfl rfl (by rw [h24]; rfl) rfl)) ?_
                      refine rg_done rfl ?_
                      refine a_cond rfl (fun h26 => ?_) (fun h26 => ?_)
                      · skip
                        have h27 := t_bne h26
                        refine a_rseq ?_
                        refine rg_put (d := 2) (v := .d (.fl (.int .i64 8))) rfl (og rfl (op_assign rfl rfl rfl)) ?_
                        refine rg_done rfl ?_
                        refine a_ret ?_
                        show ∃ ds, ResL _ _ _ ds ∧ RV.of ds = _
                        refine ⟨[.fl (.int .i64 8)], (.cons (.tmp rfl (.d _)) .nil), ?_⟩
                        have hfc : fitB x.cents = true := by simp [fitB]; omega
                        have hu : pc x = 8 := by
                          unfold pc; simp only [h1, h2, h3, h5, h8, h10, h13, h19, h21, h24, h26, hnf, hfc, adds_ref hfc, Bool.true_or, Bool.false_or, Bool.or_true, Bool.or_false, Bool.not_true, Bool.not_false, cond_true, cond_false, Bool.true_and, Bool.false_and, Bool.and_true, Bool.and_false] <;> rfl
                        rw [hu]; rfl
                      · skip
                        have h28 := f_bne h26
                        refine a_skip ?_
                        show A _ _ _ _ _ _ _
                        refine a_rseq ?_
                        refine rg_put (d := 2) (v := .d (.fl (.int .i64 0))) rfl (og rfl (op_assign rfl rfl rfl)) ?_
                        refine rg_done rfl ?_
                        refine a_ret ?_
                        show ∃ ds, ResL _ _ _ ds ∧ RV.of ds = _
                        refine ⟨[.fl (.int .i64 0)], (.cons (.tmp rfl (.d _)) .nil), ?_⟩
                        have hfc : fitB x.cents = true := by simp [fitB]; omega
                        have hu : pc x = 0 := by
                          unfold pc; simp only [h1, h2, h3, h5, h8, h10, h13, h19, h21, h24, h26, hnf, hfc, adds_ref hfc, Bool.true_or, Bool.false_or, Bool.or_true, Bool.or_false, Bool.not_true, Bool.not_false, cond_true, cond_false, Bool.true_and, Bool.false_and, Bool.and_true, Bool.and_false] <;> rfl
                        rw [hu]; rfl
                    · skip
                      have h29 := t_bne h24
                      refine rg_put (d := 62) (v := .d (.fl undef)) rfl (on rfl rfl rfl h24) ?_
                      refine rg_put (d := 63) (v := .d (.fl undef)) rfl (on rfl rfl rfl h24) ?_
                      refine rg_put (d := 64) (v := .d (.fl undef)) rfl (on rfl rfl rfl h24) ?_
                      refine rg_put (d := 65) (v := .d (.fl undef)) rfl (on rfl rfl rfl h24) ?_
                      refine rg_put (d := 66) (v := .d (.fl (.bool true))) rfl (og rfl (op_pick rfl rfl (by rw [h24]; rfl) rfl)) ?_
                      refine rg_done rfl ?_
                      refine a_condK rfl rfl ?_
                      refine a_rseq ?_
                      refine rg_put (d := 2) (v := .d (.fl (.int .i64 8))) rfl (og rfl (op_assign rfl rfl rfl)) ?_
                      refine rg_done rfl ?_
                      refine a_ret ?_
                      show ∃ ds, ResL _ _ _ ds ∧ RV.of ds = _
                      refine ⟨[.fl (.int .i64 8)], (.cons (.tmp rfl (.d _)) .nil), ?_⟩
                      have hfc : fitB x.cents = true := by simp [fitB]; omega
                      have hu : pc x = 8 := by
                        unfold pc; simp only [h1, h2, h3, h5, h8, h10, h13, h19, h21, h24, hnf, hfc, adds_ref hfc, Bool.true_or, Bool.false_or, Bool.or_true, Bool.or_false, Bool.not_true, Bool.not_false, cond_true, cond_false, Bool.true_and, Bool.false_and, Bool.and_true, Bool.and_false] <;> rfl
                      rw [hu]; rfl
                · skip
                  have h30 := t_dec h19
                  refine rg_put (d := 49) (v := .d (.fl undef)) rfl (on rfl rfl rfl h19) ?_
                  refine rg_put (d := 50) (v := .d (.fl undef)) rfl (on rfl rfl rfl h19) ?_
                  refine rg_put (d := 51) (v := .d (.fl undef)) rfl (on rfl rfl rfl h19) ?_
                  refine rg_put (d := 52) (v := .d (.fl (.bool true))) rfl (og rfl (op_pick rfl rfl (by rw [h19]; rfl) rfl)) ?_
                  refine rg_done rfl ?_
                  refine a_condK rfl rfl ?_
                  refine a_rseq ?_
                  refine rg_put (d := 2) (v := .d (.fl (.int .i64 13))) rfl (og rfl (op_assign rfl rfl rfl)) ?_
                  refine rg_done rfl ?_
                  refine a_ret ?_
                  show ∃ ds, ResL _ _ _ ds ∧ RV.of ds = _
                  refine ⟨[.fl (.int .i64 13)], (.cons (.tmp rfl (.d _)) .nil), ?_⟩
                  have hu : pc x = 13 := by
                    unfold pc; simp only [h1, h2, h3, h5, h8, h10, h13, h19, hnf, Bool.true_or, Bool.false_or, Bool.or_true, Bool.or_false, Bool.not_true, Bool.not_false, cond_true, cond_false, Bool.true_and, Bool.false_and, Bool.and_true, Bool.and_false] <;> rfl
                  rw [hu]; rfl
          · skip
            have h31 := t_dec h8
            refine rg_put (d := 26) (v := .d (.fl undef)) rfl (on rfl rfl rfl h8) ?_
            refine rg_put (d := 27) (v := .d (.fl undef)) rfl (on rfl rfl rfl h8) ?_
            refine rg_put (d := 28) (v := .d (.fl undef)) rfl (on rfl rfl rfl h8) ?_
            refine rg_put (d := 29) (v := .d (.fl (.bool true))) rfl (og rfl (op_pick rfl rfl (by rw [h8]; rfl) rfl)) ?_
            refine rg_done rfl ?_
            refine a_condK rfl rfl ?_
            refine a_rseq ?_
            refine rg_put (d := 2) (v := .d (.fl (.int .i64 12))) rfl (og rfl (op_assign rfl rfl rfl)) ?_
            refine rg_done rfl ?_
            refine a_ret ?_
            show ∃ ds, ResL _ _ _ ds ∧ RV.of ds = _
            refine ⟨[.fl (.int .i64 12)], (.cons (.tmp rfl (.d _)) .nil), ?_⟩
            have hu : pc x = 12 := by
              unfold pc; simp only [h1, h2, h3, h5, h8, Bool.true_or, Bool.false_or, Bool.or_true, Bool.or_false, Bool.not_true, Bool.not_false, cond_true, cond_false, Bool.true_and, Bool.false_and, Bool.and_true, Bool.and_false] <;> rfl
            rw [hu]; rfl
      · skip
        have h32 := t_dec h3
        refine rg_put (d := 18) (v := .d (.fl undef)) rfl (on rfl rfl rfl h3) ?_
        refine rg_put (d := 19) (v := .d (.fl undef)) rfl (on rfl rfl rfl h3) ?_
        refine rg_put (d := 20) (v := .d (.fl undef)) rfl (on rfl rfl rfl h3) ?_
        refine rg_put (d := 21) (v := .d (.fl (.bool true))) rfl (og rfl (op_pick rfl rfl (by rw [h3]; rfl) rfl)) ?_
        refine rg_done rfl ?_
        refine a_condK rfl rfl ?_
        refine a_rseq ?_
        refine rg_put (d := 2) (v := .d (.fl (.int .i64 20))) rfl (og rfl (op_assign rfl rfl rfl)) ?_
        refine rg_done rfl ?_
        refine a_ret ?_
        show ∃ ds, ResL _ _ _ ds ∧ RV.of ds = _
        refine ⟨[.fl (.int .i64 20)], (.cons (.tmp rfl (.d _)) .nil), ?_⟩
        have hu : pc x = 20 := by
          unfold pc; simp only [h1, h2, h3, Bool.true_or, Bool.false_or, Bool.or_true, Bool.or_false, Bool.not_true, Bool.not_false, cond_true, cond_false, Bool.true_and, Bool.false_and, Bool.and_true, Bool.and_false] <;> rfl
        rw [hu]; rfl
  · skip
    refine rg_put (d := 10) (v := .d (.fl undef)) rfl (on rfl rfl rfl h1) ?_
    refine rg_put (d := 11) (v := .d (.fl undef)) rfl (on rfl rfl rfl h1) ?_
    refine rg_put (d := 12) (v := .d (.fl undef)) rfl (on rfl rfl rfl h1) ?_
    refine rg_put (d := 13) (v := .d (.fl (.bool true))) rfl (og rfl (op_pick rfl rfl (by rw [h1]; rfl) rfl)) ?_
    refine rg_done rfl ?_
    refine a_condK rfl rfl ?_
    refine a_rseq ?_
    refine rg_put (d := 2) (v := .d (.fl (.int .i64 6))) rfl (og rfl (op_assign rfl rfl rfl)) ?_
    refine rg_done rfl ?_
    refine a_ret ?_
    show ∃ ds, ResL _ _ _ ds ∧ RV.of ds = _
    refine ⟨[.fl (.int .i64 6)], (.cons (.tmp rfl (.d _)) .nil), ?_⟩
    have hu : pc x = 6 := by
      unfold pc; simp only [h1, Bool.true_or, Bool.false_or, Bool.or_true, Bool.or_false, Bool.not_true, Bool.not_false, cond_true, cond_false, Bool.true_and, Bool.false_and, Bool.and_true, Bool.and_false] <;> rfl
    rw [hu]; rfl
end Go.Proofs.Ytgidehchfahpnaa.Wk
