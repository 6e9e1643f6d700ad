/- Equal images; the first difference. Condition: lists of a possible length. -/
import Derived.Test.YtaecdkhpidligaaB3
set_option linter.unusedSimpArgs false
set_option linter.unusedVariables false
namespace Go.Proofs.Ytaecdkhpidligaa.Wk
open Go Go.RowKit Go.Proofs.Ytaecdkhpidligaa.Av
def lEq {α : Type} [DecidableEq α] (a b : List α) : Bool := decide (a = b)
theorem lEq_refl {α : Type} [DecidableEq α] (a : List α) : lEq a a = true := decide_eq_true rfl
theorem lEq_comm {α : Type} [DecidableEq α] (a b : List α) : lEq a b = lEq b a := by unfold lEq; rw [Bool.eq_iff_iff]; simp; exact ⟨Eq.symm, Eq.symm⟩
theorem lEq_len {α : Type} [DecidableEq α] {a b : List α} (h : a.length ≠ b.length) : lEq a b = false := decide_eq_false (fun e => h (by rw [e]))
theorem lEq_no {α : Type} [DecidableEq α] [Inhabited α] {a b : List α} {k : Nat} (h : ix a k ≠ ix b k) : lEq a b = false := decide_eq_false (fun e => h (by rw [e]))
theorem lEq_yes {α : Type} [DecidableEq α] [Inhabited α] {a b : List α} (hl : a.length = b.length) (h : ∀ q, q < a.length → ix a q = ix b q) : lEq a b = true := by
  refine decide_eq_true ?_
  apply List.ext_getElem? 
  intro q
  rcases Nat.lt_or_ge q a.length with hq | hq
  · rw [ix_get hq, ix_get (by omega), h q hq]
  · rw [List.getElem?_eq_none hq, List.getElem?_eq_none (by omega)]
theorem sEq_self (a : ByteArray) : sEq a a = true := decide_eq_true rfl
theorem sEq_comm (a b : ByteArray) : sEq a b = sEq b a := by unfold sEq; rw [Bool.eq_iff_iff]; simp; exact ⟨Eq.symm, Eq.symm⟩
theorem sEq_ne {a b : ByteArray} (h : sEq a b = false) : a ≠ b := of_decide_eq_false h
def imEq (a b : Im) : Bool := sEq a.id b.id && (a.time == b.time) && (a.purpose == b.purpose) && (a.dig == b.dig) && lEq a.hold b.hold
theorem imEq_self (a : Im) : imEq a a = true := by simp [imEq, sEq_self, lEq_refl]
theorem beq_comm_int (a b : Int) : (a == b) = (b == a) := by rw [Bool.eq_iff_iff]; simp; exact ⟨Eq.symm, Eq.symm⟩
theorem imEq_comm (a b : Im) : imEq a b = imEq b a := by unfold imEq; rw [sEq_comm, beq_comm_int a.time, beq_comm_int a.purpose, beq_comm_int a.dig, lEq_comm]
def gd (a b : List Im) (i : Nat) : Bool := decide (i < a.length) && decide (i < b.length) && imEq (ix a i) (ix b i)
theorem gd_comm (a b : List Im) (i : Nat) : gd a b i = gd b a i := by unfold gd; rw [imEq_comm, Bool.and_comm (decide (i < a.length))]
def fstD (a b : List Im) : Int := match (List.range (max a.length b.length)).find? (fun i => !gd a b i) with
  | some i => i
  | none => -1
theorem fstD_comm (a b : List Im) : fstD a b = fstD b a := by unfold fstD; rw [Nat.max_comm, show (fun i => !gd a b i) = (fun i => !gd b a i) from funext fun i => by rw [gd_comm]]
theorem fstD_at {a b : List Im} {k : Nat} (hk : k < max a.length b.length) (h : gd a b k = false) (hq : ∀ q, q < k → gd a b q = true) : fstD a b = k := by
  have : (List.range (max a.length b.length)).find? (fun i => !gd a b i) = some k := by
    rw [List.find?_range_eq_some]
    exact ⟨by simp [h], by simpa using hk, fun q hq' => by simp [hq q hq']⟩
  unfold fstD; rw [this]
theorem fstD_none {a b : List Im} (hq : ∀ q, q < max a.length b.length → gd a b q = true) : fstD a b = -1 := by
  have : (List.range (max a.length b.length)).find? (fun i => !gd a b i) = none := by
    rw [List.find?_range_eq_none]
    intro q hq'; simp [hq q (by simpa using hq')]
  unfold fstD; rw [this]
theorem gd_self {a : List Im} {q : Nat} (h : q < a.length) : gd a a q = true := by simp [gd, h, imEq_self]
theorem fstD_self (a : List Im) : fstD a a = -1 := fstD_none (fun q hq => gd_self (by simpa using hq))
def pkEq (a b : Pk) : Bool := sEq a.case b.case && decide (fstD a.images b.images < 0) && lEq a.chain b.chain
theorem pkEq_self (a : Pk) : pkEq a a = true := by simp [pkEq, sEq_self, lEq_refl, fstD_self]

set_option maxHeartbeats 4000000 in
set_option maxRecDepth 100000 in
theorem eqU43 (a b : List Int) (ha : a.length < 9223372036854775807) : Ctr Try.prog 22 [.sl 1 (List.map (rI .u64) a), .sl 1 (List.map (rI .u64) b)] (.d (.fl (.bool (lEq a b)))) := by
  refine ctr (n := 26) (rs := #[.tmp 4]) (L := [(0, .d (.sl 1 (List.map (rI .u64) a))), (1, .d (.sl 1 (List.map (rI .u64) b)))]) Try.func22 rfl rfl rfl rfl rfl (fun w0 U0 => ?_)
  refine a_rseq ?_
  refine rg_put (d := 4) (v := .d (.fl (.bool false))) rfl (og rfl (op_assign rfl rfl rfl)) ?_
  refine rg_done rfl ?_
  refine a_seq ?_
  refine a_rseq ?_
  refine rg_put (d := 6) (v := .d (.sl 1 (List.map (rI .u64) a))) rfl (og rfl (op_move rfl rfl rfl)) ?_
  refine rg_put (d := 7) (v := .d (.fl (.int .i64 (a.length : Int)))) rfl (og rfl (s_len rfl Try.underlying27 rfl rfl)) ?_
  refine rg_put (d := 8) (v := .d (.sl 1 (List.map (rI .u64) b))) rfl (og rfl (op_move rfl rfl rfl)) ?_
  refine rg_put (d := 9) (v := .d (.fl (.int .i64 (b.length : Int)))) rfl (og rfl (s_len rfl Try.underlying27 rfl rfl)) ?_
  refine rg_put (d := 10) (v := .d (.fl (.bool (((a.length : Int) != (b.length : Int)))))) rfl (og rfl (op_bin rfl rfl rfl (b_neq _ _ _ _) rfl)) ?_
  refine rg_done rfl ?_
  refine a_cond rfl (fun h1 => ?_) (fun h1 => ?_)
  · skip
    have h2 := t_bne h1
    refine a_rseq ?_
    refine rg_put (d := 4) (v := .d (.fl (.bool false))) rfl (og rfl (op_assign rfl rfl rfl)) ?_
    refine rg_done rfl ?_
    refine a_ret ?_
    show ∃ ds, ResL _ _ _ ds ∧ RV.of ds = _
    refine ⟨[.fl (.bool false)], (.cons (.tmp rfl (.d _)) .nil), ?_⟩
    rw [lEq_len (by omega)]; rfl
  · skip
    have h3 := f_bne h1
    refine a_skip ?_
    show A _ _ _ _ _ _ _
    refine a_seq ?_
    refine a_rseq ?_
    refine rg_put (d := 11) (v := .d (.sl 1 (List.map (rI .u64) a))) rfl (og rfl (op_move rfl rfl rfl)) ?_
    refine rg_put (d := 12) (v := .d (.fl (.int .i64 (a.length : Int)))) rfl (og rfl (s_len rfl Try.underlying27 rfl rfl)) ?_
    refine rg_put (d := 13) (v := .d (.fl (.int .i64 0))) rfl (og rfl (op_move rfl rfl rfl)) ?_
    refine rg_done rfl ?_
    refine a_block ?_
    refine a_loop (ι := Nat) (fun k => SS [(0, .d (.sl 1 (List.map (rI .u64) a))), (1, .d (.sl 1 (List.map (rI .u64) b))), (10, .d (.fl (.bool (((a.length : Int) != (b.length : Int)))))), (12, .d (.fl (.int .i64 (a.length : Int)))), (13, .d (.fl (.int .i64 (k : Int))))] []) (fun k => k ≤ a.length ∧ ∀ q, q < k → ix a q = ix b q) (fun k => a.length - k) 0 (⟨by omega, fun q h => by omega⟩) (imp_forget rfl ⟨rfl, rfl, rfl, rfl, (by first | rfl | exact ci (by omega) | exact ci (by simp) | exact cd (by simp) | simp), trivial⟩ trivial) (fun k hok => ?_)
    obtain ⟨hk, hq⟩ := hok
    refine a_rseq ?_
    refine rg_put (d := 14) (v := .d (.fl (.bool ((decide ((k : Int) < (a.length : Int))))))) rfl (og rfl (op_bin rfl rfl rfl (b_lss _ _ _ _) rfl)) ?_
    refine rg_done rfl ?_
    refine a_seq ?_
    refine a_cond rfl (fun h4 => ?_) (fun h4 => ?_)
    · skip
      have h5 := t_dec h4
      refine a_skip ?_
      show A _ _ _ _ _ _ _
      refine a_seq ?_
      refine a_block ?_
      refine a_rseq ?_
      refine rg_put (d := 15) (v := .d (.fl (.int .i64 (k : Int)))) rfl (og rfl (op_move rfl rfl rfl)) ?_
      refine rg_put (d := 5) (v := .d (.fl (.int .i64 (k : Int)))) rfl (og rfl (op_assign rfl rfl rfl)) ?_
      refine rg_done rfl ?_
      refine a_dseq (by kernel_rfl) ?_
      refine dr_put (d := 16) (v := .d (.sl 1 (List.map (rI .u64) a))) rfl (og rfl (op_move rfl rfl rfl)) ?_
      refine dr_put (d := 17) (v := .d (.fl (.int .i64 (k : Int)))) rfl (og rfl (op_move rfl rfl rfl)) ?_
      refine dr_put (d := 18) (v := .el ((rI .u64 (ix a k)))) rfl (og rfl (s_index rfl Try.underlying27 ti38 rfl rfl (by omega) (row_at (by omega)) rfl)) ?_
      refine dr_put (d := 19) (v := .d (.fl (.int .u64 (ix a k)))) rfl (og rfl (op_load_el rfl Try.underlying38 rfl rfl rfl rfl)) ?_
      refine dr_put (d := 20) (v := .d (.sl 1 (List.map (rI .u64) b))) rfl (og rfl (op_move rfl rfl rfl)) ?_
      refine dr_put (d := 21) (v := .d (.fl (.int .i64 (k : Int)))) rfl (og rfl (op_move rfl rfl rfl)) ?_
      refine dr_put (d := 22) (v := .el ((rI .u64 (ix b k)))) rfl (og rfl (s_index rfl Try.underlying27 ti38 rfl rfl (by omega) (row_at (by omega)) rfl)) ?_
      refine dr_put (d := 23) (v := .d (.fl (.int .u64 (ix b k)))) rfl (og rfl (op_load_el rfl Try.underlying38 rfl rfl rfl rfl)) ?_
      refine dr_put (d := 24) (v := .d (.fl (.bool (((ix a k) != (ix b k)))))) rfl (og rfl (op_bin rfl rfl rfl (b_neq _ _ _ _) rfl)) ?_
      refine dr_done rfl (by kernel_rfl) (by kernel_rfl) ?_
      refine a_cond rfl (fun h6 => ?_) (fun h6 => ?_)
      · skip
        have h7 := t_bne h6
        refine a_rseq ?_
        refine rg_put (d := 4) (v := .d (.fl (.bool false))) rfl (og rfl (op_assign rfl rfl rfl)) ?_
        refine rg_done rfl ?_
        refine a_ret ?_
        show ∃ ds, ResL _ _ _ ds ∧ RV.of ds = _
        refine ⟨[.fl (.bool false)], (.cons (.tmp rfl (.d _)) .nil), ?_⟩
        rw [lEq_no (t_bne h6)]; rfl
      · skip
        have h8 := f_bne h6
        refine a_skip ?_
        show A _ _ _ _ _ _ _
        refine a_region ?_
        refine rg_put (d := 25) (v := .d (.fl (.int .i64 (((k : Int) + 1))))) rfl (og rfl (op_bin rfl rfl rfl (fun x y w => b_add64 _ _ _ x y w (by omega)) rfl)) ?_
        refine rg_put (d := 13) (v := .d (.fl (.int .i64 (((k : Int) + 1))))) rfl (og rfl (op_move rfl rfl rfl)) ?_
        refine rg_done rfl ?_
        have hx : ix a k = ix b k := f_bne h6
        show ∃ i, _ ∧ _ ∧ Imp _ _ _ _ _
        refine ⟨k + 1, ⟨by omega, fun q h => (Nat.lt_succ_iff_lt_or_eq.1 h).elim (hq q) (fun e => by rw [e]; exact hx)⟩, by omega, imp_forget rfl ⟨rfl, rfl, rfl, rfl, (by first | rfl | exact ci (by omega) | exact ci (by simp) | exact cd (by simp) | simp), trivial⟩ trivial⟩
    · skip
      have h9 := f_dec h4
      refine a_exit ?_
      show A _ _ _ _ _ _ _
      refine a_rseq ?_
      refine rg_put (d := 4) (v := .d (.fl (.bool true))) rfl (og rfl (op_assign rfl rfl rfl)) ?_
      refine rg_done rfl ?_
      refine a_ret ?_
      show ∃ ds, ResL _ _ _ ds ∧ RV.of ds = _
      refine ⟨[.fl (.bool true)], (.cons (.tmp rfl (.d _)) .nil), ?_⟩
      rw [lEq_yes (by omega) (fun q h => hq q (by omega))]; rfl
end Go.Proofs.Ytaecdkhpidligaa.Wk
