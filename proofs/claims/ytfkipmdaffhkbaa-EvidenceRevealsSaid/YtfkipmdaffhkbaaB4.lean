/- Equal images; the first difference. Condition: lists of a possible length. -/
import Derived.Test.YtfkipmdaffhkbaaB3
set_option linter.unusedSimpArgs false
set_option linter.unusedVariables false
namespace Go.Proofs.Ytfkipmdaffhkbaa.Wk
open Go Go.RowKit Go.Proofs.Ytfkipmdaffhkbaa.Av
def lEq {α : Type} [DecidableEq α] (a b : List α) : Bool := decide (a = b)
theorem lEq_refl {α : Type} [DecidableEq α] (a : List α) : lEq a a = true := decide_eq_true rfl
theorem lEq_comm {α : Type} [DecidableEq α] (a b : List α) : lEq a b = lEq b a := by unfold lEq; rw [Bool.eq_iff_iff]; simp; exact ⟨Eq.symm, Eq.symm⟩
theorem lEq_len {α : Type} [DecidableEq α] {a b : List α} (h : a.length ≠ b.length) : lEq a b = false := decide_eq_false (fun e => h (by rw [e]))
theorem lEq_no {α : Type} [DecidableEq α] [Inhabited α] {a b : List α} {k : Nat} (h : ix a k ≠ ix b k) : lEq a b = false := decide_eq_false (fun e => h (by rw [e]))
theorem lEq_yes {α : Type} [DecidableEq α] [Inhabited α] {a b : List α} (hl : a.length = b.length) (h : ∀ q, q < a.length → ix a q = ix b q) : lEq a b = true := by
  refine decide_eq_true ?_
  apply List.ext_getElem? 
  intro q
  rcases Nat.lt_or_ge q a.length with hq | hq
  · rw [ix_get hq, ix_get (by omega), h q hq]
  · rw [List.getElem?_eq_none hq, List.getElem?_eq_none (by omega)]
theorem sEq_self (a : ByteArray) : sEq a a = true := decide_eq_true rfl
theorem sEq_comm (a b : ByteArray) : sEq a b = sEq b a := by unfold sEq; rw [Bool.eq_iff_iff]; simp; exact ⟨Eq.symm, Eq.symm⟩
theorem sEq_ne {a b : ByteArray} (h : sEq a b = false) : a ≠ b := of_decide_eq_false h
def imEq (a b : Im) : Bool := sEq a.id b.id && (a.time == b.time) && (a.purpose == b.purpose) && (a.dig == b.dig) && lEq a.hold b.hold
theorem imEq_self (a : Im) : imEq a a = true := by simp [imEq, sEq_self, lEq_refl]
theorem beq_comm_int (a b : Int) : (a == b) = (b == a) := by rw [Bool.eq_iff_iff]; simp; exact ⟨Eq.symm, Eq.symm⟩
theorem imEq_comm (a b : Im) : imEq a b = imEq b a := by unfold imEq; rw [sEq_comm, beq_comm_int a.time, beq_comm_int a.purpose, beq_comm_int a.dig, lEq_comm]
def gd (a b : List Im) (i : Nat) : Bool := decide (i < a.length) && decide (i < b.length) && imEq (ix a i) (ix b i)
theorem gd_comm (a b : List Im) (i : Nat) : gd a b i = gd b a i := by unfold gd; rw [imEq_comm, Bool.and_comm (decide (i < a.length))]
def fstD (a b : List Im) : Int := match (List.range (max a.length b.length)).find? (fun i => !gd a b i) with
  | some i => i
  | none => -1
theorem fstD_comm (a b : List Im) : fstD a b = fstD b a := by unfold fstD; rw [Nat.max_comm, show (fun i => !gd a b i) = (fun i => !gd b a i) from funext fun i => by rw [gd_comm]]
theorem fstD_at {a b : List Im} {k : Nat} (hk : k < max a.length b.length) (h : gd a b k = false) (hq : ∀ q, q < k → gd a b q = true) : fstD a b = k := by
  have : (List.range (max a.length b.length)).find? (fun i => !gd a b i) = some k := by
    rw [List.find?_range_eq_some]
    exact ⟨by simp [h], by simpa using hk, fun q hq' => by simp [hq q hq']⟩
  unfold fstD; rw [this]
theorem fstD_none {a b : List Im} (hq : ∀ q, q < max a.length b.length → gd a b q = true) : fstD a b = -1 := by
  have : (List.range (max a.length b.length)).find? (fun i => !gd a b i) = none := by
    rw [List.find?_range_eq_none]
    intro q hq'; simp [hq q (by simpa using hq')]
  unfold fstD; rw [this]
theorem gd_self {a : List Im} {q : Nat} (h : q < a.length) : gd a a q = true := by simp [gd, h, imEq_self]
theorem fstD_self (a : List Im) : fstD a a = -1 := fstD_none (fun q hq => gd_self (by simpa using hq))
def pkEq (a b : Pk) : Bool := sEq a.case b.case && decide (fstD a.images b.images < 0) && lEq a.chain b.chain
theorem pkEq_self (a : Pk) : pkEq a a = true := by simp [pkEq, sEq_self, lEq_refl, fstD_self]

set_option maxHeartbeats 4000000 in
set_option maxRecDepth 100000 in
theorem eqS59 (a b : List ByteArray) (ha : a.length < 9223372036854775807) : Ctr Try.prog 59 [.sl 1 (List.map rS a), .sl 1 (List.map rS b)] (.d (.fl (.bool (lEq a b)))) := by
  refine ctr (n := 26) (rs := #[.tmp 4]) (L := [(0, .d (.sl 1 (List.map rS a))), (1, .d (.sl 1 (List.map rS b)))]) Try.func59 rfl rfl rfl rfl rfl (fun w0 U0 => ?_)
  refine a_rseq ?_
  refine rg_put (d := 4) (v := .d (.fl (.bool false))) rfl (og rfl (op_assign rfl rfl rfl)) ?_
  refine rg_done rfl ?_
  refine a_seq ?_
  refine a_rseq ?_
  refine rg_put (d := 6) (v := .d (.sl 1 (List.map rS a))) rfl (og rfl (op_move rfl rfl rfl)) ?_
  refine rg_put (d := 7) (v := .d (.fl (.int .i64 (a.length : Int)))) rfl (og rfl (s_len rfl Try.underlying22 rfl rfl)) ?_
  refine rg_put (d := 8) (v := .d (.sl 1 (List.map rS b))) rfl (og rfl (op_move rfl rfl rfl)) ?_
  refine rg_put (d := 9) (v := .d (.fl (.int .i64 (b.length : Int)))) rfl (og rfl (s_len rfl Try.underlying22 rfl rfl)) ?_
  refine rg_put (d := 10) (v := .d (.fl (.bool (((a.length : Int) != (b.length : Int)))))) rfl (og rfl (op_bin rfl rfl rfl (b_neq _ _ _ _) rfl)) ?_
  refine rg_done rfl ?_
  refine a_cond rfl (fun h1 => ?_) (fun h1 => ?_)
  · skip
    have h2 := t_bne h1
    refine a_rseq ?_
    refine rg_put (d := 4) (v := .d (.fl (.bool false))) rfl (og rfl (op_assign rfl rfl rfl)) ?_
    refine rg_done rfl ?_
    refine a_ret ?_
    show ∃ ds, ResL _ _ _ ds ∧ RV.of ds = _
    refine ⟨[.fl (.bool false)], (.cons (.tmp rfl (.d _)) .nil), ?_⟩
    rw [lEq_len (by omega)]; rfl
  · skip
    have h3 := f_bne h1
    refine a_skip ?_
    show A _ _ _ _ _ _ _
    refine a_seq ?_
    refine a_rseq ?_
    refine rg_put (d := 11) (v := .d (.sl 1 (List.map rS a))) rfl (og rfl (op_move rfl rfl rfl)) ?_
    refine rg_put (d := 12) (v := .d (.fl (.int .i64 (a.length : Int)))) rfl (og rfl (s_len rfl Try.underlying22 rfl rfl)) ?_
    refine rg_put (d := 13) (v := .d (.fl (.int .i64 0))) rfl (og rfl (op_move rfl rfl rfl)) ?_
    refine rg_done rfl ?_
    refine a_block ?_
    refine a_loop (ι := Nat) (fun k => SS [(0, .d (.sl 1 (List.map rS a))), (1, .d (.sl 1 (List.map rS b))), (10, .d (.fl (.bool (((a.length : Int) != (b.length : Int)))))), (12, .d (.fl (.int .i64 (a.length : Int)))), (13, .d (.fl (.int .i64 (k : Int))))] []) (fun k => k ≤ a.length ∧ ∀ q, q < k → ix a q = ix b q) (fun k => a.length - k) 0 (⟨by omega, fun q h => by omega⟩) (imp_forget rfl ⟨rfl, rfl, rfl, rfl, (by first | rfl | exact ci (by omega) | exact ci (by simp) | exact cd (by simp) | simp), trivial⟩ trivial) (fun k hok => ?_)
    obtain ⟨hk, hq⟩ := hok
    refine a_rseq ?_
    refine rg_put (d := 14) (v := .d (.fl (.bool ((decide ((k : Int) < (a.length : Int))))))) rfl (og rfl (op_bin rfl rfl rfl (b_lss _ _ _ _) rfl)) ?_
    refine rg_done rfl ?_
    refine a_seq ?_
    refine a_cond rfl (fun h4 => ?_) (fun h4 => ?_)
    · skip
      have h5 := t_dec h4
      refine a_skip ?_
      show A _ _ _ _ _ _ _
      refine a_seq ?_
      refine a_block ?_
      refine a_rseq ?_
      refine rg_put (d := 15) (v := .d (.fl (.int .i64 (k : Int)))) rfl (og rfl (op_move rfl rfl rfl)) ?_
      refine rg_put (d := 5) (v := .d (.fl (.int .i64 (k : Int)))) rfl (og rfl (op_assign rfl rfl rfl)) ?_
      refine rg_done rfl ?_
      refine a_dseq (by kernel_rfl) ?_
      refine dr_put (d := 16) (v := .d (.sl 1 (List.map rS a))) rfl (og rfl (op_move rfl rfl rfl)) ?_
      refine dr_put (d := 17) (v := .d (.fl (.int .i64 (k : Int)))) rfl (og rfl (op_move rfl rfl rfl)) ?_
      refine dr_put (d := 18) (v := .el ((rS (ix a k)))) rfl (og rfl (s_index rfl Try.underlying22 ti9 rfl rfl (by omega) (row_at (by omega)) rfl)) ?_
      refine dr_put (d := 19) (v := .d (.fl (.string (ix a k)))) rfl (og rfl (op_load_el rfl Try.underlying9 rfl rfl rfl rfl)) ?_
      refine dr_put (d := 20) (v := .d (.sl 1 (List.map rS b))) rfl (og rfl (op_move rfl rfl rfl)) ?_
      refine dr_put (d := 21) (v := .d (.fl (.int .i64 (k : Int)))) rfl (og rfl (op_move rfl rfl rfl)) ?_
      refine dr_put (d := 22) (v := .el ((rS (ix b k)))) rfl (og rfl (s_index rfl Try.underlying22 ti9 rfl rfl (by omega) (row_at (by omega)) rfl)) ?_
      refine dr_put (d := 23) (v := .d (.fl (.string (ix b k)))) rfl (og rfl (op_load_el rfl Try.underlying9 rfl rfl rfl rfl)) ?_
      refine dr_put (d := 24) (v := .d (.fl (.bool ((!(sEq (ix a k) (ix b k))))))) rfl (og rfl (op_bin rfl rfl rfl (b_sne _ _ _) rfl)) ?_
      refine dr_done rfl (by kernel_rfl) (by kernel_rfl) ?_
      refine a_cond rfl (fun h6 => ?_) (fun h6 => ?_)
      · skip
        have h7 := t_not h6
        refine a_rseq ?_
        refine rg_put (d := 4) (v := .d (.fl (.bool false))) rfl (og rfl (op_assign rfl rfl rfl)) ?_
        refine rg_done rfl ?_
        refine a_ret ?_
        show ∃ ds, ResL _ _ _ ds ∧ RV.of ds = _
        refine ⟨[.fl (.bool false)], (.cons (.tmp rfl (.d _)) .nil), ?_⟩
        rw [lEq_no (sEq_ne h7)]; rfl
      · skip
        have h8 := f_not h6
        refine a_skip ?_
        show A _ _ _ _ _ _ _
        refine a_region ?_
        refine rg_put (d := 25) (v := .d (.fl (.int .i64 (((k : Int) + 1))))) rfl (og rfl (op_bin rfl rfl rfl (fun x y w => b_add64 _ _ _ x y w (by omega)) rfl)) ?_
        refine rg_put (d := 13) (v := .d (.fl (.int .i64 (((k : Int) + 1))))) rfl (og rfl (op_move rfl rfl rfl)) ?_
        refine rg_done rfl ?_
        have hx : ix a k = ix b k := sEq_eq (h8)
        show ∃ i, _ ∧ _ ∧ Imp _ _ _ _ _
        refine ⟨k + 1, ⟨by omega, fun q h => (Nat.lt_succ_iff_lt_or_eq.1 h).elim (hq q) (fun e => by rw [e]; exact hx)⟩, by omega, imp_forget rfl ⟨rfl, rfl, rfl, rfl, (by first | rfl | exact ci (by omega) | exact ci (by simp) | exact cd (by simp) | simp), trivial⟩ trivial⟩
    · skip
      have h9 := f_dec h4
      refine a_exit ?_
      show A _ _ _ _ _ _ _
      refine a_rseq ?_
      refine rg_put (d := 4) (v := .d (.fl (.bool true))) rfl (og rfl (op_assign rfl rfl rfl)) ?_
      refine rg_done rfl ?_
      refine a_ret ?_
      show ∃ ds, ResL _ _ _ ds ∧ RV.of ds = _
      refine ⟨[.fl (.bool true)], (.cons (.tmp rfl (.d _)) .nil), ?_⟩
      rw [lEq_yes (by omega) (fun q h => hq q (by omega))]; rfl
set_option maxHeartbeats 4000000 in
set_option maxRecDepth 100000 in
theorem eqS45 (a b : List ByteArray) (ha : a.length < 9223372036854775807) : Ctr Try.prog 45 [.sl 1 (List.map rS a), .sl 1 (List.map rS b)] (.d (.fl (.bool (lEq a b)))) := by
  refine ctr (n := 26) (rs := #[.tmp 4]) (L := [(0, .d (.sl 1 (List.map rS a))), (1, .d (.sl 1 (List.map rS b)))]) Try.func45 rfl rfl rfl rfl rfl (fun w0 U0 => ?_)
  refine a_rseq ?_
  refine rg_put (d := 4) (v := .d (.fl (.bool false))) rfl (og rfl (op_assign rfl rfl rfl)) ?_
  refine rg_done rfl ?_
  refine a_seq ?_
  refine a_rseq ?_
  refine rg_put (d := 6) (v := .d (.sl 1 (List.map rS a))) rfl (og rfl (op_move rfl rfl rfl)) ?_
  refine rg_put (d := 7) (v := .d (.fl (.int .i64 (a.length : Int)))) rfl (og rfl (s_len rfl Try.underlying22 rfl rfl)) ?_
  refine rg_put (d := 8) (v := .d (.sl 1 (List.map rS b))) rfl (og rfl (op_move rfl rfl rfl)) ?_
  refine rg_put (d := 9) (v := .d (.fl (.int .i64 (b.length : Int)))) rfl (og rfl (s_len rfl Try.underlying22 rfl rfl)) ?_
  refine rg_put (d := 10) (v := .d (.fl (.bool (((a.length : Int) != (b.length : Int)))))) rfl (og rfl (op_bin rfl rfl rfl (b_neq _ _ _ _) rfl)) ?_
  refine rg_done rfl ?_
  refine a_cond rfl (fun h1 => ?_) (fun h1 => ?_)
  · skip
    have h2 := t_bne h1
    refine a_rseq ?_
    refine rg_put (d := 4) (v := .d (.fl (.bool false))) rfl (og rfl (op_assign rfl rfl rfl)) ?_
    refine rg_done rfl ?_
    refine a_ret ?_
    show ∃ ds, ResL _ _ _ ds ∧ RV.of ds = _
    refine ⟨[.fl (.bool false)], (.cons (.tmp rfl (.d _)) .nil), ?_⟩
    rw [lEq_len (by omega)]; rfl
  · skip
    have h3 := f_bne h1
    refine a_skip ?_
    show A _ _ _ _ _ _ _
    refine a_seq ?_
    refine a_rseq ?_
    refine rg_put (d := 5) (v := .d (.fl (.int .i64 0))) rfl (og rfl (op_assign rfl rfl rfl)) ?_
    refine rg_done rfl ?_
    refine a_block ?_
    refine a_loop (ι := Nat) (fun k => SS [(0, .d (.sl 1 (List.map rS a))), (1, .d (.sl 1 (List.map rS b))), (10, .d (.fl (.bool (((a.length : Int) != (b.length : Int)))))), (5, .d (.fl (.int .i64 (k : Int))))] []) (fun k => k ≤ a.length ∧ ∀ q, q < k → ix a q = ix b q) (fun k => a.length - k) 0 (⟨by omega, fun q h => by omega⟩) (imp_forget rfl ⟨rfl, rfl, rfl, (by first | rfl | exact ci (by omega) | exact ci (by simp) | exact cd (by simp) | simp), trivial⟩ trivial) (fun k hok => ?_)
    obtain ⟨hk, hq⟩ := hok
    refine a_seq ?_
    refine a_rseq ?_
    refine rg_put (d := 11) (v := .d (.fl (.int .i64 (k : Int)))) rfl (og rfl (op_move rfl rfl rfl)) ?_
    refine rg_put (d := 12) (v := .d (.sl 1 (List.map rS a))) rfl (og rfl (op_move rfl rfl rfl)) ?_
    refine rg_put (d := 13) (v := .d (.fl (.int .i64 (a.length : Int)))) rfl (og rfl (s_len rfl Try.underlying22 rfl rfl)) ?_
    refine rg_put (d := 14) (v := .d (.fl (.bool ((decide ((k : Int) < (a.length : Int))))))) rfl (og rfl (op_bin rfl rfl rfl (b_lss _ _ _ _) rfl)) ?_
    refine rg_done rfl ?_
    refine a_cond rfl (fun h4 => ?_) (fun h4 => ?_)
    · skip
      have h5 := t_dec h4
      refine a_skip ?_
      show A _ _ _ _ _ _ _
      refine a_seq ?_
      refine a_block ?_
      refine a_dseq (by kernel_rfl) ?_
      refine dr_put (d := 17) (v := .d (.sl 1 (List.map rS a))) rfl (og rfl (op_move rfl rfl rfl)) ?_
      refine dr_put (d := 18) (v := .d (.fl (.int .i64 (k : Int)))) rfl (og rfl (op_move rfl rfl rfl)) ?_
      refine dr_put (d := 19) (v := .el ((rS (ix a k)))) rfl (og rfl (s_index rfl Try.underlying22 ti9 rfl rfl (by omega) (row_at (by omega)) rfl)) ?_
      refine dr_put (d := 20) (v := .d (.fl (.string (ix a k)))) rfl (og rfl (op_load_el rfl Try.underlying9 rfl rfl rfl rfl)) ?_
      refine dr_put (d := 21) (v := .d (.sl 1 (List.map rS b))) rfl (og rfl (op_move rfl rfl rfl)) ?_
      refine dr_put (d := 22) (v := .d (.fl (.int .i64 (k : Int)))) rfl (og rfl (op_move rfl rfl rfl)) ?_
      refine dr_put (d := 23) (v := .el ((rS (ix b k)))) rfl (og rfl (s_index rfl Try.underlying22 ti9 rfl rfl (by omega) (row_at (by omega)) rfl)) ?_
      refine dr_put (d := 24) (v := .d (.fl (.string (ix b k)))) rfl (og rfl (op_load_el rfl Try.underlying9 rfl rfl rfl rfl)) ?_
      refine dr_put (d := 25) (v := .d (.fl (.bool ((!(sEq (ix a k) (ix b k))))))) rfl (og rfl (op_bin rfl rfl rfl (b_sne _ _ _) rfl)) ?_
      refine dr_done rfl (by kernel_rfl) (by kernel_rfl) ?_
      refine a_cond rfl (fun h6 => ?_) (fun h6 => ?_)
      · skip
        have h7 := t_not h6
        refine a_rseq ?_
        refine rg_put (d := 4) (v := .d (.fl (.bool false))) rfl (og rfl (op_assign rfl rfl rfl)) ?_
        refine rg_done rfl ?_
        refine a_ret ?_
        show ∃ ds, ResL _ _ _ ds ∧ RV.of ds = _
        refine ⟨[.fl (.bool false)], (.cons (.tmp rfl (.d _)) .nil), ?_⟩
        rw [lEq_no (sEq_ne h7)]; rfl
      · skip
        have h8 := f_not h6
        refine a_skip ?_
        show A _ _ _ _ _ _ _
        refine a_region ?_
        refine rg_put (d := 15) (v := .d (.fl (.int .i64 (k : Int)))) rfl (og rfl (op_move rfl rfl rfl)) ?_
        refine rg_put (d := 16) (v := .d (.fl (.int .i64 (((k : Int) + 1))))) rfl (og rfl (op_bin rfl rfl rfl (fun x y w => b_add64 _ _ _ x y w (by omega)) rfl)) ?_
        refine rg_put (d := 5) (v := .d (.fl (.int .i64 (((k : Int) + 1))))) rfl (og rfl (op_assign rfl rfl rfl)) ?_
        refine rg_done rfl ?_
        have hx : ix a k = ix b k := sEq_eq (h8)
        show ∃ i, _ ∧ _ ∧ Imp _ _ _ _ _
        refine ⟨k + 1, ⟨by omega, fun q h => (Nat.lt_succ_iff_lt_or_eq.1 h).elim (hq q) (fun e => by rw [e]; exact hx)⟩, by omega, imp_forget rfl ⟨rfl, rfl, rfl, (by first | rfl | exact ci (by omega) | exact ci (by simp) | exact cd (by simp) | simp), trivial⟩ trivial⟩
    · skip
      have h9 := f_dec h4
      refine a_exit ?_
      show A _ _ _ _ _ _ _
      refine a_rseq ?_
      refine rg_put (d := 4) (v := .d (.fl (.bool true))) rfl (og rfl (op_assign rfl rfl rfl)) ?_
      refine rg_done rfl ?_
      refine a_ret ?_
      show ∃ ds, ResL _ _ _ ds ∧ RV.of ds = _
      refine ⟨[.fl (.bool true)], (.cons (.tmp rfl (.d _)) .nil), ?_⟩
      rw [lEq_yes (by omega) (fun q h => hq q (by omega))]; rfl
set_option maxHeartbeats 4000000 in
set_option maxRecDepth 100000 in
theorem eqU43 (a b : List Int) (ha : a.length < 9223372036854775807) : Ctr Try.prog 43 [.sl 1 (List.map (rI .u64) a), .sl 1 (List.map (rI .u64) b)] (.d (.fl (.bool (lEq a b)))) := by
  refine ctr (n := 26) (rs := #[.tmp 4]) (L := [(0, .d (.sl 1 (List.map (rI .u64) a))), (1, .d (.sl 1 (List.map (rI .u64) b)))]) Try.func43 rfl rfl rfl rfl rfl (fun w0 U0 => ?_)
  refine a_rseq ?_
  refine rg_put (d := 4) (v := .d (.fl (.bool false))) rfl (og rfl (op_assign rfl rfl rfl)) ?_
  refine rg_done rfl ?_
  refine a_seq ?_
  refine a_rseq ?_
  refine rg_put (d := 6) (v := .d (.sl 1 (List.map (rI .u64) a))) rfl (og rfl (op_move rfl rfl rfl)) ?_
  refine rg_put (d := 7) (v := .d (.fl (.int .i64 (a.length : Int)))) rfl (og rfl (s_len rfl Try.underlying31 rfl rfl)) ?_
  refine rg_put (d := 8) (v := .d (.sl 1 (List.map (rI .u64) b))) rfl (og rfl (op_move rfl rfl rfl)) ?_
  refine rg_put (d := 9) (v := .d (.fl (.int .i64 (b.length : Int)))) rfl (og rfl (s_len rfl Try.underlying31 rfl rfl)) ?_
  refine rg_put (d := 10) (v := .d (.fl (.bool (((a.length : Int) != (b.length : Int)))))) rfl (og rfl (op_bin rfl rfl rfl (b_neq _ _ _ _) rfl)) ?_
  refine rg_done rfl ?_
  refine a_cond rfl (fun h1 => ?_) (fun h1 => ?_)
  · skip
    have h2 := t_bne h1
    refine a_rseq ?_
    refine rg_put (d := 4) (v := .d (.fl (.bool false))) rfl (og rfl (op_assign rfl rfl rfl)) ?_
    refine rg_done rfl ?_
    refine a_ret ?_
    show ∃ ds, ResL _ _ _ ds ∧ RV.of ds = _
    refine ⟨[.fl (.bool false)], (.cons (.tmp rfl (.d _)) .nil), ?_⟩
    rw [lEq_len (by omega)]; rfl
  · skip
    have h3 := f_bne h1
    refine a_skip ?_
    show A _ _ _ _ _ _ _
    refine a_seq ?_
    refine a_rseq ?_
    refine rg_put (d := 11) (v := .d (.sl 1 (List.map (rI .u64) a))) rfl (og rfl (op_move rfl rfl rfl)) ?_
    refine rg_put (d := 12) (v := .d (.fl (.int .i64 (a.length : Int)))) rfl (og rfl (s_len rfl Try.underlying31 rfl rfl)) ?_
    refine rg_put (d := 13) (v := .d (.fl (.int .i64 0))) rfl (og rfl (op_move rfl rfl rfl)) ?_
    refine rg_done rfl ?_
    refine a_block ?_
    refine a_loop (ι := Nat) (fun k => SS [(0, .d (.sl 1 (List.map (rI .u64) a))), (1, .d (.sl 1 (List.map (rI .u64) b))), (10, .d (.fl (.bool (((a.length : Int) != (b.length : Int)))))), (12, .d (.fl (.int .i64 (a.length : Int)))), (13, .d (.fl (.int .i64 (k : Int))))] []) (fun k => k ≤ a.length ∧ ∀ q, q < k → ix a q = ix b q) (fun k => a.length - k) 0 (⟨by omega, fun q h => by omega⟩) (imp_forget rfl ⟨rfl, rfl, rfl, rfl, (by first | rfl | exact ci (by omega) | exact ci (by simp) | exact cd (by simp) | simp), trivial⟩ trivial) (fun k hok => ?_)
    obtain ⟨hk, hq⟩ := hok
    refine a_rseq ?_
    refine rg_put (d := 14) (v := .d (.fl (.bool ((decide ((k : Int) < (a.length : Int))))))) rfl (og rfl (op_bin rfl rfl rfl (b_lss _ _ _ _) rfl)) ?_
    refine rg_done rfl ?_
    refine a_seq ?_
    refine a_cond rfl (fun h4 => ?_) (fun h4 => ?_)
    · skip
      have h5 := t_dec h4
      refine a_skip ?_
      show A _ _ _ _ _ _ _
      refine a_seq ?_
      refine a_block ?_
      refine a_rseq ?_
      refine rg_put (d := 15) (v := .d (.fl (.int .i64 (k : Int)))) rfl (og rfl (op_move rfl rfl rfl)) ?_
      refine rg_put (d := 5) (v := .d (.fl (.int .i64 (k : Int)))) rfl (og rfl (op_assign rfl rfl rfl)) ?_
      refine rg_done rfl ?_
      refine a_dseq (by kernel_rfl) ?_
      refine dr_put (d := 16) (v := .d (.sl 1 (List.map (rI .u64) a))) rfl (og rfl (op_move rfl rfl rfl)) ?_
      refine dr_put (d := 17) (v := .d (.fl (.int .i64 (k : Int)))) rfl (og rfl (op_move rfl rfl rfl)) ?_
      refine dr_put (d := 18) (v := .el ((rI .u64 (ix a k)))) rfl (og rfl (s_index rfl Try.underlying31 ti23 rfl rfl (by omega) (row_at (by omega)) rfl)) ?_
      refine dr_put (d := 19) (v := .d (.fl (.int .u64 (ix a k)))) rfl (og rfl (op_load_el rfl Try.underlying23 rfl rfl rfl rfl)) ?_
      refine dr_put (d := 20) (v := .d (.sl 1 (List.map (rI .u64) b))) rfl (og rfl (op_move rfl rfl rfl)) ?_
      refine dr_put (d := 21) (v := .d (.fl (.int .i64 (k : Int)))) rfl (og rfl (op_move rfl rfl rfl)) ?_
      refine dr_put (d := 22) (v := .el ((rI .u64 (ix b k)))) rfl (og rfl (s_index rfl Try.underlying31 ti23 rfl rfl (by omega) (row_at (by omega)) rfl)) ?_
      refine dr_put (d := 23) (v := .d (.fl (.int .u64 (ix b k)))) rfl (og rfl (op_load_el rfl Try.underlying23 rfl rfl rfl rfl)) ?_
      refine dr_put (d := 24) (v := .d (.fl (.bool (((ix a k) != (ix b k)))))) rfl (og rfl (op_bin rfl rfl rfl (b_neq _ _ _ _) rfl)) ?_
      refine dr_done rfl (by kernel_rfl) (by kernel_rfl) ?_
      refine a_cond rfl (fun h6 => ?_) (fun h6 => ?_)
      · skip
        have h7 := t_bne h6
        refine a_rseq ?_
        refine rg_put (d := 4) (v := .d (.fl (.bool false))) rfl (og rfl (op_assign rfl rfl rfl)) ?_
        refine rg_done rfl ?_
        refine a_ret ?_
        show ∃ ds, ResL _ _ _ ds ∧ RV.of ds = _
        refine ⟨[.fl (.bool false)], (.cons (.tmp rfl (.d _)) .nil), ?_⟩
        rw [lEq_no (t_bne h6)]; rfl
      · skip
        have h8 := f_bne h6
        refine a_skip ?_
        show A _ _ _ _ _ _ _
        refine a_region ?_
        refine rg_put (d := 25) (v := .d (.fl (.int .i64 (((k : Int) + 1))))) rfl (og rfl (op_bin rfl rfl rfl (fun x y w => b_add64 _ _ _ x y w (by omega)) rfl)) ?_
        refine rg_put (d := 13) (v := .d (.fl (.int .i64 (((k : Int) + 1))))) rfl (og rfl (op_move rfl rfl rfl)) ?_
        refine rg_done rfl ?_
        have hx : ix a k = ix b k := f_bne h6
        show ∃ i, _ ∧ _ ∧ Imp _ _ _ _ _
        refine ⟨k + 1, ⟨by omega, fun q h => (Nat.lt_succ_iff_lt_or_eq.1 h).elim (hq q) (fun e => by rw [e]; exact hx)⟩, by omega, imp_forget rfl ⟨rfl, rfl, rfl, rfl, (by first | rfl | exact ci (by omega) | exact ci (by simp) | exact cd (by simp) | simp), trivial⟩ trivial⟩
    · skip
      have h9 := f_dec h4
      refine a_exit ?_
      show A _ _ _ _ _ _ _
      refine a_rseq ?_
      refine rg_put (d := 4) (v := .d (.fl (.bool true))) rfl (og rfl (op_assign rfl rfl rfl)) ?_
      refine rg_done rfl ?_
      refine a_ret ?_
      show ∃ ds, ResL _ _ _ ds ∧ RV.of ds = _
      refine ⟨[.fl (.bool true)], (.cons (.tmp rfl (.d _)) .nil), ?_⟩
      rw [lEq_yes (by omega) (fun q h => hq q (by omega))]; rfl
set_option maxHeartbeats 4000000 in
set_option maxRecDepth 100000 in
theorem eqU27 (a b : List Int) (ha : a.length < 9223372036854775807) : Ctr Try.prog 27 [.sl 1 (List.map (rI .u64) a), .sl 1 (List.map (rI .u64) b)] (.d (.fl (.bool (lEq a b)))) := by
  refine ctr (n := 26) (rs := #[.tmp 4]) (L := [(0, .d (.sl 1 (List.map (rI .u64) a))), (1, .d (.sl 1 (List.map (rI .u64) b)))]) Try.func27 rfl rfl rfl rfl rfl (fun w0 U0 => ?_)
  refine a_rseq ?_
  refine rg_put (d := 4) (v := .d (.fl (.bool false))) rfl (og rfl (op_assign rfl rfl rfl)) ?_
  refine rg_done rfl ?_
  refine a_seq ?_
  refine a_rseq ?_
  refine rg_put (d := 6) (v := .d (.sl 1 (List.map (rI .u64) a))) rfl (og rfl (op_move rfl rfl rfl)) ?_
  refine rg_put (d := 7) (v := .d (.fl (.int .i64 (a.length : Int)))) rfl (og rfl (s_len rfl Try.underlying31 rfl rfl)) ?_
  refine rg_put (d := 8) (v := .d (.sl 1 (List.map (rI .u64) b))) rfl (og rfl (op_move rfl rfl rfl)) ?_
  refine rg_put (d := 9) (v := .d (.fl (.int .i64 (b.length : Int)))) rfl (og rfl (s_len rfl Try.underlying31 rfl rfl)) ?_
  refine rg_put (d := 10) (v := .d (.fl (.bool (((a.length : Int) != (b.length : Int)))))) rfl (og rfl (op_bin rfl rfl rfl (b_neq _ _ _ _) rfl)) ?_
  refine rg_done rfl ?_
  refine a_cond rfl (fun h1 => ?_) (fun h1 => ?_)
  · skip
    have h2 := t_bne h1
    refine a_rseq ?_
    refine rg_put (d := 4) (v := .d (.fl (.bool false))) rfl (og rfl (op_assign rfl rfl rfl)) ?_
    refine rg_done rfl ?_
    refine a_ret ?_
    show ∃ ds, ResL _ _ _ ds ∧ RV.of ds = _
    refine ⟨[.fl (.bool false)], (.cons (.tmp rfl (.d _)) .nil), ?_⟩
    rw [lEq_len (by omega)]; rfl
  · skip
    have h3 := f_bne h1
    refine a_skip ?_
    show A _ _ _ _ _ _ _
    refine a_seq ?_
    refine a_rseq ?_
    refine rg_put (d := 5) (v := .d (.fl (.int .i64 0))) rfl (og rfl (op_assign rfl rfl rfl)) ?_
    refine rg_done rfl ?_
    refine a_block ?_
    refine a_loop (ι := Nat) (fun k => SS [(0, .d (.sl 1 (List.map (rI .u64) a))), (1, .d (.sl 1 (List.map (rI .u64) b))), (10, .d (.fl (.bool (((a.length : Int) != (b.length : Int)))))), (5, .d (.fl (.int .i64 (k : Int))))] []) (fun k => k ≤ a.length ∧ ∀ q, q < k → ix a q = ix b q) (fun k => a.length - k) 0 (⟨by omega, fun q h => by omega⟩) (imp_forget rfl ⟨rfl, rfl, rfl, (by first | rfl | exact ci (by omega) | exact ci (by simp) | exact cd (by simp) | simp), trivial⟩ trivial) (fun k hok => ?_)
    obtain ⟨hk, hq⟩ := hok
    refine a_seq ?_
    refine a_rseq ?_
    refine rg_put (d := 11) (v := .d (.fl (.int .i64 (k : Int)))) rfl (og rfl (op_move rfl rfl rfl)) ?_
    refine rg_put (d := 12) (v := .d (.sl 1 (List.map (rI .u64) a))) rfl (og rfl (op_move rfl rfl rfl)) ?_
    refine rg_put (d := 13) (v := .d (.fl (.int .i64 (a.length : Int)))) rfl (og rfl (s_len rfl Try.underlying31 rfl rfl)) ?_
    refine rg_put (d := 14) (v := .d (.fl (.bool ((decide ((k : Int) < (a.length : Int))))))) rfl (og rfl (op_bin rfl rfl rfl (b_lss _ _ _ _) rfl)) ?_
    refine rg_done rfl ?_
    refine a_cond rfl (fun h4 => ?_) (fun h4 => ?_)
    · skip
      have h5 := t_dec h4
      refine a_skip ?_
      show A _ _ _ _ _ _ _
      refine a_seq ?_
      refine a_block ?_
      refine a_dseq (by kernel_rfl) ?_
      refine dr_put (d := 17) (v := .d (.sl 1 (List.map (rI .u64) a))) rfl (og rfl (op_move rfl rfl rfl)) ?_
      refine dr_put (d := 18) (v := .d (.fl (.int .i64 (k : Int)))) rfl (og rfl (op_move rfl rfl rfl)) ?_
      refine dr_put (d := 19) (v := .el ((rI .u64 (ix a k)))) rfl (og rfl (s_index rfl Try.underlying31 ti23 rfl rfl (by omega) (row_at (by omega)) rfl)) ?_
      refine dr_put (d := 20) (v := .d (.fl (.int .u64 (ix a k)))) rfl (og rfl (op_load_el rfl Try.underlying23 rfl rfl rfl rfl)) ?_
      refine dr_put (d := 21) (v := .d (.sl 1 (List.map (rI .u64) b))) rfl (og rfl (op_move rfl rfl rfl)) ?_
      refine dr_put (d := 22) (v := .d (.fl (.int .i64 (k : Int)))) rfl (og rfl (op_move rfl rfl rfl)) ?_
      refine dr_put (d := 23) (v := .el ((rI .u64 (ix b k)))) rfl (og rfl (s_index rfl Try.underlying31 ti23 rfl rfl (by omega) (row_at (by omega)) rfl)) ?_
      refine dr_put (d := 24) (v := .d (.fl (.int .u64 (ix b k)))) rfl (og rfl (op_load_el rfl Try.underlying23 rfl rfl rfl rfl)) ?_
      refine dr_put (d := 25) (v := .d (.fl (.bool (((ix a k) != (ix b k)))))) rfl (og rfl (op_bin rfl rfl rfl (b_neq _ _ _ _) rfl)) ?_
      refine dr_done rfl (by kernel_rfl) (by kernel_rfl) ?_
      refine a_cond rfl (fun h6 => ?_) (fun h6 => ?_)
      · skip
        have h7 := t_bne h6
        refine a_rseq ?_
        refine rg_put (d := 4) (v := .d (.fl (.bool false))) rfl (og rfl (op_assign rfl rfl rfl)) ?_
        refine rg_done rfl ?_
        refine a_ret ?_
        show ∃ ds, ResL _ _ _ ds ∧ RV.of ds = _
        refine ⟨[.fl (.bool false)], (.cons (.tmp rfl (.d _)) .nil), ?_⟩
        rw [lEq_no (t_bne h6)]; rfl
      · skip
        have h8 := f_bne h6
        refine a_skip ?_
        show A _ _ _ _ _ _ _
        refine a_region ?_
        refine rg_put (d := 15) (v := .d (.fl (.int .i64 (k : Int)))) rfl (og rfl (op_move rfl rfl rfl)) ?_
        refine rg_put (d := 16) (v := .d (.fl (.int .i64 (((k : Int) + 1))))) rfl (og rfl (op_bin rfl rfl rfl (fun x y w => b_add64 _ _ _ x y w (by omega)) rfl)) ?_
        refine rg_put (d := 5) (v := .d (.fl (.int .i64 (((k : Int) + 1))))) rfl (og rfl (op_assign rfl rfl rfl)) ?_
        refine rg_done rfl ?_
        have hx : ix a k = ix b k := f_bne h6
        show ∃ i, _ ∧ _ ∧ Imp _ _ _ _ _
        refine ⟨k + 1, ⟨by omega, fun q h => (Nat.lt_succ_iff_lt_or_eq.1 h).elim (hq q) (fun e => by rw [e]; exact hx)⟩, by omega, imp_forget rfl ⟨rfl, rfl, rfl, (by first | rfl | exact ci (by omega) | exact ci (by simp) | exact cd (by simp) | simp), trivial⟩ trivial⟩
    · skip
      have h9 := f_dec h4
      refine a_exit ?_
      show A _ _ _ _ _ _ _
      refine a_rseq ?_
      refine rg_put (d := 4) (v := .d (.fl (.bool true))) rfl (og rfl (op_assign rfl rfl rfl)) ?_
      refine rg_done rfl ?_
      refine a_ret ?_
      show ∃ ds, ResL _ _ _ ds ∧ RV.of ds = _
      refine ⟨[.fl (.bool true)], (.cons (.tmp rfl (.d _)) .nil), ?_⟩
      rw [lEq_yes (by omega) (fun q h => hq q (by omega))]; rfl
set_option maxHeartbeats 4000000 in
set_option maxRecDepth 100000 in
theorem eqB28 (a b : List Int) (ha : a.length < 9223372036854775807) : Ctr Try.prog 28 [.sl 1 (List.map (rI .u8) a), .sl 1 (List.map (rI .u8) b)] (.d (.fl (.bool (lEq a b)))) := by
  refine ctr (n := 26) (rs := #[.tmp 4]) (L := [(0, .d (.sl 1 (List.map (rI .u8) a))), (1, .d (.sl 1 (List.map (rI .u8) b)))]) Try.func28 rfl rfl rfl rfl rfl (fun w0 U0 => ?_)
  refine a_rseq ?_
  refine rg_put (d := 4) (v := .d (.fl (.bool false))) rfl (og rfl (op_assign rfl rfl rfl)) ?_
  refine rg_done rfl ?_
  refine a_seq ?_
  refine a_rseq ?_
  refine rg_put (d := 6) (v := .d (.sl 1 (List.map (rI .u8) a))) rfl (og rfl (op_move rfl rfl rfl)) ?_
  refine rg_put (d := 7) (v := .d (.fl (.int .i64 (a.length : Int)))) rfl (og rfl (s_len rfl Try.underlying48 rfl rfl)) ?_
  refine rg_put (d := 8) (v := .d (.sl 1 (List.map (rI .u8) b))) rfl (og rfl (op_move rfl rfl rfl)) ?_
  refine rg_put (d := 9) (v := .d (.fl (.int .i64 (b.length : Int)))) rfl (og rfl (s_len rfl Try.underlying48 rfl rfl)) ?_
  refine rg_put (d := 10) (v := .d (.fl (.bool (((a.length : Int) != (b.length : Int)))))) rfl (og rfl (op_bin rfl rfl rfl (b_neq _ _ _ _) rfl)) ?_
  refine rg_done rfl ?_
  refine a_cond rfl (fun h1 => ?_) (fun h1 => ?_)
  · skip
    have h2 := t_bne h1
    refine a_rseq ?_
    refine rg_put (d := 4) (v := .d (.fl (.bool false))) rfl (og rfl (op_assign rfl rfl rfl)) ?_
    refine rg_done rfl ?_
    refine a_ret ?_
    show ∃ ds, ResL _ _ _ ds ∧ RV.of ds = _
    refine ⟨[.fl (.bool false)], (.cons (.tmp rfl (.d _)) .nil), ?_⟩
    rw [lEq_len (by omega)]; rfl
  · skip
    have h3 := f_bne h1
    refine a_skip ?_
    show A _ _ _ _ _ _ _
    refine a_seq ?_
    refine a_rseq ?_
    refine rg_put (d := 5) (v := .d (.fl (.int .i64 0))) rfl (og rfl (op_assign rfl rfl rfl)) ?_
    refine rg_done rfl ?_
    refine a_block ?_
    refine a_loop (ι := Nat) (fun k => SS [(0, .d (.sl 1 (List.map (rI .u8) a))), (1, .d (.sl 1 (List.map (rI .u8) b))), (10, .d (.fl (.bool (((a.length : Int) != (b.length : Int)))))), (5, .d (.fl (.int .i64 (k : Int))))] []) (fun k => k ≤ a.length ∧ ∀ q, q < k → ix a q = ix b q) (fun k => a.length - k) 0 (⟨by omega, fun q h => by omega⟩) (imp_forget rfl ⟨rfl, rfl, rfl, (by first | rfl | exact ci (by omega) | exact ci (by simp) | exact cd (by simp) | simp), trivial⟩ trivial) (fun k hok => ?_)
    obtain ⟨hk, hq⟩ := hok
    refine a_seq ?_
    refine a_rseq ?_
    refine rg_put (d := 11) (v := .d (.fl (.int .i64 (k : Int)))) rfl (og rfl (op_move rfl rfl rfl)) ?_
    refine rg_put (d := 12) (v := .d (.sl 1 (List.map (rI .u8) a))) rfl (og rfl (op_move rfl rfl rfl)) ?_
    refine rg_put (d := 13) (v := .d (.fl (.int .i64 (a.length : Int)))) rfl (og rfl (s_len rfl Try.underlying48 rfl rfl)) ?_
    refine rg_put (d := 14) (v := .d (.fl (.bool ((decide ((k : Int) < (a.length : Int))))))) rfl (og rfl (op_bin rfl rfl rfl (b_lss _ _ _ _) rfl)) ?_
    refine rg_done rfl ?_
    refine a_cond rfl (fun h4 => ?_) (fun h4 => ?_)
    · skip
      have h5 := t_dec h4
      refine a_skip ?_
      show A _ _ _ _ _ _ _
      refine a_seq ?_
      refine a_block ?_
      refine a_dseq (by kernel_rfl) ?_
      refine dr_put (d := 17) (v := .d (.sl 1 (List.map (rI .u8) a))) rfl (og rfl (op_move rfl rfl rfl)) ?_
      refine dr_put (d := 18) (v := .d (.fl (.int .i64 (k : Int)))) rfl (og rfl (op_move rfl rfl rfl)) ?_
      refine dr_put (d := 19) (v := .el ((rI .u8 (ix a k)))) rfl (og rfl (s_index rfl Try.underlying48 ti5 rfl rfl (by omega) (row_at (by omega)) rfl)) ?_
      refine dr_put (d := 20) (v := .d (.fl (.int .u8 (ix a k)))) rfl (og rfl (op_load_el rfl Try.underlying5 rfl rfl rfl rfl)) ?_
      refine dr_put (d := 21) (v := .d (.sl 1 (List.map (rI .u8) b))) rfl (og rfl (op_move rfl rfl rfl)) ?_
      refine dr_put (d := 22) (v := .d (.fl (.int .i64 (k : Int)))) rfl (og rfl (op_move rfl rfl rfl)) ?_
      refine dr_put (d := 23) (v := .el ((rI .u8 (ix b k)))) rfl (og rfl (s_index rfl Try.underlying48 ti5 rfl rfl (by omega) (row_at (by omega)) rfl)) ?_
      refine dr_put (d := 24) (v := .d (.fl (.int .u8 (ix b k)))) rfl (og rfl (op_load_el rfl Try.underlying5 rfl rfl rfl rfl)) ?_
      refine dr_put (d := 25) (v := .d (.fl (.bool (((ix a k) != (ix b k)))))) rfl (og rfl (op_bin rfl rfl rfl (b_neq _ _ _ _) rfl)) ?_
      refine dr_done rfl (by kernel_rfl) (by kernel_rfl) ?_
      refine a_cond rfl (fun h6 => ?_) (fun h6 => ?_)
      · skip
        have h7 := t_bne h6
        refine a_rseq ?_
        refine rg_put (d := 4) (v := .d (.fl (.bool false))) rfl (og rfl (op_assign rfl rfl rfl)) ?_
        refine rg_done rfl ?_
        refine a_ret ?_
        show ∃ ds, ResL _ _ _ ds ∧ RV.of ds = _
        refine ⟨[.fl (.bool false)], (.cons (.tmp rfl (.d _)) .nil), ?_⟩
        rw [lEq_no (t_bne h6)]; rfl
      · skip
        have h8 := f_bne h6
        refine a_skip ?_
        show A _ _ _ _ _ _ _
        refine a_region ?_
        refine rg_put (d := 15) (v := .d (.fl (.int .i64 (k : Int)))) rfl (og rfl (op_move rfl rfl rfl)) ?_
        refine rg_put (d := 16) (v := .d (.fl (.int .i64 (((k : Int) + 1))))) rfl (og rfl (op_bin rfl rfl rfl (fun x y w => b_add64 _ _ _ x y w (by omega)) rfl)) ?_
        refine rg_put (d := 5) (v := .d (.fl (.int .i64 (((k : Int) + 1))))) rfl (og rfl (op_assign rfl rfl rfl)) ?_
        refine rg_done rfl ?_
        have hx : ix a k = ix b k := f_bne h6
        show ∃ i, _ ∧ _ ∧ Imp _ _ _ _ _
        refine ⟨k + 1, ⟨by omega, fun q h => (Nat.lt_succ_iff_lt_or_eq.1 h).elim (hq q) (fun e => by rw [e]; exact hx)⟩, by omega, imp_forget rfl ⟨rfl, rfl, rfl, (by first | rfl | exact ci (by omega) | exact ci (by simp) | exact cd (by simp) | simp), trivial⟩ trivial⟩
    · skip
      have h9 := f_dec h4
      refine a_exit ?_
      show A _ _ _ _ _ _ _
      refine a_rseq ?_
      refine rg_put (d := 4) (v := .d (.fl (.bool true))) rfl (og rfl (op_assign rfl rfl rfl)) ?_
      refine rg_done rfl ?_
      refine a_ret ?_
      show ∃ ds, ResL _ _ _ ds ∧ RV.of ds = _
      refine ⟨[.fl (.bool true)], (.cons (.tmp rfl (.d _)) .nil), ?_⟩
      rw [lEq_yes (by omega) (fun q h => hq q (by omega))]; rfl
set_option maxHeartbeats 4000000 in
set_option maxRecDepth 100000 in
theorem same44 (a b : Im) (hl : a.hold.length < 9223372036854775807) : Ctr Try.prog 44 [.ag (eIm a), .ag (eIm b)] (.d (.fl (.bool (imEq a b)))) := by
  refine ctr (n := 38) (rs := #[.tmp 4]) (L := [(0, .d (.ag (eIm a))), (1, .d (.ag (eIm b)))]) Try.func44 rfl rfl rfl rfl rfl (fun w0 U0 => ?_)
  refine a_rseq ?_
  refine rg_nam (d := 2) (v := .pt 101 0) (m := 101) (nw := [(101, .bx 25 (eIm a))]) rfl (og rfl (of_eff (op_box 101 rfl rfl rfl rfl) rfl)) rfl ?_
  refine rg_nam (d := 3) (v := .pt 102 0) (m := 102) (nw := [(102, .bx 25 (eIm b))]) rfl (og rfl (of_eff (op_box 102 rfl rfl rfl rfl) rfl)) rfl ?_
  refine rg_put (d := 4) (v := .d (.fl (.bool false))) rfl (og rfl (op_assign rfl rfl rfl)) ?_
  refine rg_done rfl ?_
  refine a_rseq ?_
  refine rg_put (d := 5) (v := .pt 101 0) rfl (og rfl (of_eff (s_field_pt rfl Try.underlying25 rfl ti9 rfl rfl rfl) rfl)) ?_
  refine rg_put (d := 6) (v := .d (.fl (.string a.id))) rfl (og rfl (op_load_pt rfl Try.underlying9 rfl rfl rfl rfl rfl)) ?_
  refine rg_put (d := 7) (v := .pt 102 0) rfl (og rfl (of_eff (s_field_pt rfl Try.underlying25 rfl ti9 rfl rfl rfl) rfl)) ?_
  refine rg_put (d := 8) (v := .d (.fl (.string b.id))) rfl (og rfl (op_load_pt rfl Try.underlying9 rfl rfl rfl rfl rfl)) ?_
  refine rg_put (d := 9) (v := .d (.fl (.bool (sEq a.id b.id)))) rfl (og rfl (op_bin rfl rfl rfl (b_seq _ _ _) rfl)) ?_
  refine rg_put (d := 10) (v := .d (.fl (.bool (sEq a.id b.id)))) rfl (og rfl (op_move rfl rfl rfl)) ?_
  rcases fot (sEq a.id b.id) with h1 | h1
  · skip
    refine rg_put (d := 11) (v := .d (.fl undef)) rfl (on rfl rfl rfl h1) ?_
    refine rg_put (d := 12) (v := .d (.fl undef)) rfl (on rfl rfl rfl h1) ?_
    refine rg_put (d := 13) (v := .d (.fl undef)) rfl (on rfl rfl rfl h1) ?_
    refine rg_put (d := 14) (v := .d (.fl undef)) rfl (on rfl rfl rfl h1) ?_
    refine rg_put (d := 15) (v := .d (.fl undef)) rfl (on rfl rfl rfl h1) ?_
    refine rg_put (d := 16) (v := .d (.fl (.bool false))) rfl (og rfl (op_pick rfl rfl (by rw [h1]; rfl) rfl)) ?_
    refine rg_put (d := 17) (v := .d (.fl (.bool false))) rfl (og rfl (op_move rfl rfl rfl)) ?_
    refine rg_put (d := 18) (v := .d (.fl undef)) rfl (on rfl rfl rfl rfl) ?_
    refine rg_put (d := 19) (v := .d (.fl undef)) rfl (on rfl rfl rfl rfl) ?_
    refine rg_put (d := 20) (v := .d (.fl undef)) rfl (on rfl rfl rfl rfl) ?_
    refine rg_put (d := 21) (v := .d (.fl undef)) rfl (on rfl rfl rfl rfl) ?_
    refine rg_put (d := 22) (v := .d (.fl undef)) rfl (on rfl rfl rfl rfl) ?_
    refine rg_put (d := 23) (v := .d (.fl (.bool false))) rfl (og rfl (op_pick rfl rfl rfl rfl)) ?_
    refine rg_put (d := 24) (v := .d (.fl (.bool false))) rfl (og rfl (op_move rfl rfl rfl)) ?_
    refine rg_put (d := 25) (v := .d (.fl undef)) rfl (on rfl rfl rfl rfl) ?_
    refine rg_put (d := 26) (v := .d (.fl undef)) rfl (on rfl rfl rfl rfl) ?_
    refine rg_put (d := 27) (v := .d (.fl undef)) rfl (on rfl rfl rfl rfl) ?_
    refine rg_put (d := 28) (v := .d (.fl undef)) rfl (on rfl rfl rfl rfl) ?_
    refine rg_put (d := 29) (v := .d (.fl undef)) rfl (on rfl rfl rfl rfl) ?_
    refine rg_put (d := 30) (v := .d (.fl (.bool false))) rfl (og rfl (op_pick rfl rfl rfl rfl)) ?_
    refine rg_put (d := 31) (v := .d (.fl (.bool false))) rfl (og rfl (op_move rfl rfl rfl)) ?_
    refine rg_put (d := 32) (v := .d (.fl undef)) rfl (on rfl rfl rfl rfl) ?_
    refine rg_put (d := 33) (v := .d (.fl undef)) rfl (on rfl rfl rfl rfl) ?_
    refine rg_put (d := 34) (v := .d (.fl undef)) rfl (on rfl rfl rfl rfl) ?_
    refine rg_put (d := 35) (v := .d (.fl undef)) rfl (on rfl rfl rfl rfl) ?_
    refine rg_put (d := 36) (v := .d (.fl undef)) rfl (on rfl rfl rfl rfl) ?_
    refine rg_put (d := 37) (v := .d (.fl (.bool false))) rfl (og rfl (op_pick rfl rfl rfl rfl)) ?_
    refine rg_put (d := 4) (v := .d (.fl (.bool false))) rfl (og rfl (op_assign rfl rfl rfl)) ?_
    refine rg_done rfl ?_
    refine a_ret ?_
    show ∃ ds, ResL _ _ _ ds ∧ RV.of ds = _
    refine ⟨[.fl (.bool false)], (.cons (.tmp rfl (.d _)) .nil), ?_⟩
    have hu : imEq a b = false := by
      unfold imEq; simp only [h1, Bool.true_and, Bool.false_and, Bool.and_false, Bool.and_true, Bool.not_true, Bool.not_false]
    rw [hu]; rfl
  · skip
    refine rg_put (d := 11) (v := .pt 101 1) rfl (oy rfl rfl rfl h1 (of_eff (s_field_pt rfl Try.underlying25 rfl ti3 rfl rfl rfl) rfl)) ?_
    refine rg_put (d := 12) (v := .d (.fl (.int .i64 a.time))) rfl (oy rfl rfl rfl h1 (op_load_pt rfl Try.underlying3 rfl rfl rfl rfl rfl)) ?_
    refine rg_put (d := 13) (v := .pt 102 1) rfl (oy rfl rfl rfl h1 (of_eff (s_field_pt rfl Try.underlying25 rfl ti3 rfl rfl rfl) rfl)) ?_
    refine rg_put (d := 14) (v := .d (.fl (.int .i64 b.time))) rfl (oy rfl rfl rfl h1 (op_load_pt rfl Try.underlying3 rfl rfl rfl rfl rfl)) ?_
    refine rg_put (d := 15) (v := .d (.fl (.bool (a.time == b.time)))) rfl (oy rfl rfl rfl h1 (op_bin rfl rfl rfl (b_eql _ _ _ _) rfl)) ?_
    refine rg_put (d := 16) (v := .d (.fl (.bool (a.time == b.time)))) rfl (og rfl (op_pick rfl rfl (by rw [h1]; rfl) rfl)) ?_
    refine rg_put (d := 17) (v := .d (.fl (.bool (a.time == b.time)))) rfl (og rfl (op_move rfl rfl rfl)) ?_
    rcases fot (a.time == b.time) with h2 | h2
    · skip
      have h3 := f_beq h2
      refine rg_put (d := 18) (v := .d (.fl undef)) rfl (on rfl rfl rfl h2) ?_
      refine rg_put (d := 19) (v := .d (.fl undef)) rfl (on rfl rfl rfl h2) ?_
      refine rg_put (d := 20) (v := .d (.fl undef)) rfl (on rfl rfl rfl h2) ?_
      refine rg_put (d := 21) (v := .d (.fl undef)) rfl (on rfl rfl rfl h2) ?_
      refine rg_put (d := 22) (v := .d (.fl undef)) rfl (on rfl rfl rfl h2) ?_
      refine rg_put (d := 23) (v := .d (.fl (.bool false))) rfl (og rfl (op_pick rfl rfl (by rw [h2]; rfl) rfl)) ?_
      refine rg_put (d := 24) (v := .d (.fl (.bool false))) rfl (og rfl (op_move rfl rfl rfl)) ?_
      refine rg_put (d := 25) (v := .d (.fl undef)) rfl (on rfl rfl rfl rfl) ?_
      refine rg_put (d := 26) (v := .d (.fl undef)) rfl (on rfl rfl rfl rfl) ?_
      refine rg_put (d := 27) (v := .d (.fl undef)) rfl (on rfl rfl rfl rfl) ?_
      refine rg_put (d := 28) (v := .d (.fl undef)) rfl (on rfl rfl rfl rfl) ?_
      refine rg_put (d := 29) (v := .d (.fl undef)) rfl (on rfl rfl rfl rfl) ?_
      refine rg_put (d := 30) (v := .d (.fl (.bool false))) rfl (og rfl (op_pick rfl rfl rfl rfl)) ?_
      refine rg_put (d := 31) (v := .d (.fl (.bool false))) rfl (og rfl (op_move rfl rfl rfl)) ?_
      refine rg_put (d := 32) (v := .d (.fl undef)) rfl (on rfl rfl rfl rfl) ?_
      refine rg_put (d := 33) (v := .d (.fl undef)) rfl (on rfl rfl rfl rfl) ?_
      refine rg_put (d := 34) (v := .d (.fl undef)) rfl (on rfl rfl rfl rfl) ?_
      refine rg_put (d := 35) (v := .d (.fl undef)) rfl (on rfl rfl rfl rfl) ?_
      refine rg_put (d := 36) (v := .d (.fl undef)) rfl (on rfl rfl rfl rfl) ?_
      refine rg_put (d := 37) (v := .d (.fl (.bool false))) rfl (og rfl (op_pick rfl rfl rfl rfl)) ?_
      refine rg_put (d := 4) (v := .d (.fl (.bool false))) rfl (og rfl (op_assign rfl rfl rfl)) ?_
      refine rg_done rfl ?_
      refine a_ret ?_
      show ∃ ds, ResL _ _ _ ds ∧ RV.of ds = _
      refine ⟨[.fl (.bool false)], (.cons (.tmp rfl (.d _)) .nil), ?_⟩
      have hu : imEq a b = false := by
        unfold imEq; simp only [h1, h2, Bool.true_and, Bool.false_and, Bool.and_false, Bool.and_true, Bool.not_true, Bool.not_false]
      rw [hu]; rfl
    · skip
      have h4 := t_beq h2
      refine rg_put (d := 18) (v := .pt 101 2) rfl (oy rfl rfl rfl h2 (of_eff (s_field_pt rfl Try.underlying25 rfl ti3 rfl rfl rfl) rfl)) ?_
      refine rg_put (d := 19) (v := .d (.fl (.int .i64 a.purpose))) rfl (oy rfl rfl rfl h2 (op_load_pt rfl Try.underlying3 rfl rfl rfl rfl rfl)) ?_
      refine rg_put (d := 20) (v := .pt 102 2) rfl (oy rfl rfl rfl h2 (of_eff (s_field_pt rfl Try.underlying25 rfl ti3 rfl rfl rfl) rfl)) ?_
      refine rg_put (d := 21) (v := .d (.fl (.int .i64 b.purpose))) rfl (oy rfl rfl rfl h2 (op_load_pt rfl Try.underlying3 rfl rfl rfl rfl rfl)) ?_
      refine rg_put (d := 22) (v := .d (.fl (.bool (a.purpose == b.purpose)))) rfl (oy rfl rfl rfl h2 (op_bin rfl rfl rfl (b_eql _ _ _ _) rfl)) ?_
      refine rg_put (d := 23) (v := .d (.fl (.bool (a.purpose == b.purpose)))) rfl (og rfl (op_pick rfl rfl (by rw [h2]; rfl) rfl)) ?_
      refine rg_put (d := 24) (v := .d (.fl (.bool (a.purpose == b.purpose)))) rfl (og rfl (op_move rfl rfl rfl)) ?_
      rcases fot (a.purpose == b.purpose) with h5 | h5
      · skip
        have h6 := f_beq h5
        refine rg_put (d := 25) (v := .d (.fl undef)) rfl (on rfl rfl rfl h5) ?_
        refine rg_put (d := 26) (v := .d (.fl undef)) rfl (on rfl rfl rfl h5) ?_
        refine rg_put (d := 27) (v := .d (.fl undef)) rfl (on rfl rfl rfl h5) ?_
        refine rg_put (d := 28) (v := .d (.fl undef)) rfl (on rfl rfl rfl h5) ?_
        refine rg_put (d := 29) (v := .d (.fl undef)) rfl (on rfl rfl rfl h5) ?_
        refine rg_put (d := 30) (v := .d (.fl (.bool false))) rfl (og rfl (op_pick rfl rfl (by rw [h5]; rfl) rfl)) ?_
        refine rg_put (d := 31) (v := .d (.fl (.bool false))) rfl (og rfl (op_move rfl rfl rfl)) ?_
        refine rg_put (d := 32) (v := .d (.fl undef)) rfl (on rfl rfl rfl rfl) ?_
        refine rg_put (d := 33) (v := .d (.fl undef)) rfl (on rfl rfl rfl rfl) ?_
        refine rg_put (d := 34) (v := .d (.fl undef)) rfl (on rfl rfl rfl rfl) ?_
        refine rg_put (d := 35) (v := .d (.fl undef)) rfl (on rfl rfl rfl rfl) ?_
        refine rg_put (d := 36) (v := .d (.fl undef)) rfl (on rfl rfl rfl rfl) ?_
        refine rg_put (d := 37) (v := .d (.fl (.bool false))) rfl (og rfl (op_pick rfl rfl rfl rfl)) ?_
        refine rg_put (d := 4) (v := .d (.fl (.bool false))) rfl (og rfl (op_assign rfl rfl rfl)) ?_
        refine rg_done rfl ?_
        refine a_ret ?_
        show ∃ ds, ResL _ _ _ ds ∧ RV.of ds = _
        refine ⟨[.fl (.bool false)], (.cons (.tmp rfl (.d _)) .nil), ?_⟩
        have hu : imEq a b = false := by
          unfold imEq; simp only [h1, h2, h5, Bool.true_and, Bool.false_and, Bool.and_false, Bool.and_true, Bool.not_true, Bool.not_false]
        rw [hu]; rfl
      · skip
        have h7 := t_beq h5
        refine rg_put (d := 25) (v := .pt 101 3) rfl (oy rfl rfl rfl h5 (of_eff (s_field_pt rfl Try.underlying25 rfl ti22 rfl rfl rfl) rfl)) ?_
        refine rg_put (d := 26) (v := .d (.sl 1 (List.map rS a.hold))) rfl (oy rfl rfl rfl h5 (op_load_pt rfl Try.underlying22 rfl rfl rfl rfl rfl)) ?_
        refine rg_put (d := 27) (v := .pt 102 3) rfl (oy rfl rfl rfl h5 (of_eff (s_field_pt rfl Try.underlying25 rfl ti22 rfl rfl rfl) rfl)) ?_
        refine rg_put (d := 28) (v := .d (.sl 1 (List.map rS b.hold))) rfl (oy rfl rfl rfl h5 (op_load_pt rfl Try.underlying22 rfl rfl rfl rfl rfl)) ?_
        refine rg_put (d := 29) (v := .d (.fl (.bool (lEq a.hold b.hold)))) rfl (oy rfl rfl rfl h5 (op_call rfl Try.func59 nm59 rfl (.cons rfl (.d _) (.cons rfl (.d _) .nil)) (eqS59 a.hold b.hold (by first | omega | (simp only [List.length_take]; omega))) rfl)) ?_
        refine rg_put (d := 30) (v := .d (.fl (.bool (lEq a.hold b.hold)))) rfl (og rfl (op_pick rfl rfl (by rw [h5]; rfl) rfl)) ?_
        refine rg_put (d := 31) (v := .d (.fl (.bool (lEq a.hold b.hold)))) rfl (og rfl (op_move rfl rfl rfl)) ?_
        rcases fot (lEq a.hold b.hold) with h8 | h8
        · skip
          refine rg_put (d := 32) (v := .d (.fl undef)) rfl (on rfl rfl rfl h8) ?_
          refine rg_put (d := 33) (v := .d (.fl undef)) rfl (on rfl rfl rfl h8) ?_
          refine rg_put (d := 34) (v := .d (.fl undef)) rfl (on rfl rfl rfl h8) ?_
          refine rg_put (d := 35) (v := .d (.fl undef)) rfl (on rfl rfl rfl h8) ?_
          refine rg_put (d := 36) (v := .d (.fl undef)) rfl (on rfl rfl rfl h8) ?_
          refine rg_put (d := 37) (v := .d (.fl (.bool false))) rfl (og rfl (op_pick rfl rfl (by rw [h8]; rfl) rfl)) ?_
          refine rg_put (d := 4) (v := .d (.fl (.bool false))) rfl (og rfl (op_assign rfl rfl rfl)) ?_
          refine rg_done rfl ?_
          refine a_ret ?_
          show ∃ ds, ResL _ _ _ ds ∧ RV.of ds = _
          refine ⟨[.fl (.bool false)], (.cons (.tmp rfl (.d _)) .nil), ?_⟩
          have hu : imEq a b = false := by
            unfold imEq; simp only [h1, h2, h5, h8, Bool.true_and, Bool.false_and, Bool.and_false, Bool.and_true, Bool.not_true, Bool.not_false]
          rw [hu]; rfl
        · skip
          refine rg_put (d := 32) (v := .pt 101 4) rfl (oy rfl rfl rfl h8 (of_eff (s_field_pt rfl Try.underlying25 rfl ti23 rfl rfl rfl) rfl)) ?_
          refine rg_put (d := 33) (v := .d (.fl (.int .u64 a.dig))) rfl (oy rfl rfl rfl h8 (op_load_pt rfl Try.underlying23 rfl rfl rfl rfl rfl)) ?_
          refine rg_put (d := 34) (v := .pt 102 4) rfl (oy rfl rfl rfl h8 (of_eff (s_field_pt rfl Try.underlying25 rfl ti23 rfl rfl rfl) rfl)) ?_
          refine rg_put (d := 35) (v := .d (.fl (.int .u64 b.dig))) rfl (oy rfl rfl rfl h8 (op_load_pt rfl Try.underlying23 rfl rfl rfl rfl rfl)) ?_
          refine rg_put (d := 36) (v := .d (.fl (.bool (a.dig == b.dig)))) rfl (oy rfl rfl rfl h8 (op_bin rfl rfl rfl (b_eql _ _ _ _) rfl)) ?_
          refine rg_put (d := 37) (v := .d (.fl (.bool (a.dig == b.dig)))) rfl (og rfl (op_pick rfl rfl (by rw [h8]; rfl) rfl)) ?_
          refine rg_put (d := 4) (v := .d (.fl (.bool (a.dig == b.dig)))) rfl (og rfl (op_assign rfl rfl rfl)) ?_
          refine rg_done rfl ?_
          refine a_ret ?_
          show ∃ ds, ResL _ _ _ ds ∧ RV.of ds = _
          refine ⟨[.fl (.bool (a.dig == b.dig))], (.cons (.tmp rfl (.d _)) .nil), ?_⟩
          have hu : imEq a b = (a.dig == b.dig) := by
            unfold imEq; simp only [h1, h2, h5, h8, Bool.true_and, Bool.false_and, Bool.and_false, Bool.and_true, Bool.not_true, Bool.not_false]
          rw [hu]; rfl
set_option maxHeartbeats 4000000 in
set_option maxRecDepth 100000 in
theorem same24 (a b : Im) (hl : a.hold.length < 9223372036854775807) : Ctr Try.prog 24 [.ag (eIm a), .ag (eIm b)] (.d (.fl (.bool (imEq a b)))) := by
  refine ctr (n := 38) (rs := #[.tmp 4]) (L := [(0, .d (.ag (eIm a))), (1, .d (.ag (eIm b)))]) Try.func24 rfl rfl rfl rfl rfl (fun w0 U0 => ?_)
  refine a_rseq ?_
  refine rg_nam (d := 2) (v := .pt 101 0) (m := 101) (nw := [(101, .bx 25 (eIm a))]) rfl (og rfl (of_eff (op_box 101 rfl rfl rfl rfl) rfl)) rfl ?_
  refine rg_nam (d := 3) (v := .pt 102 0) (m := 102) (nw := [(102, .bx 25 (eIm b))]) rfl (og rfl (of_eff (op_box 102 rfl rfl rfl rfl) rfl)) rfl ?_
  refine rg_put (d := 4) (v := .d (.fl (.bool false))) rfl (og rfl (op_assign rfl rfl rfl)) ?_
  refine rg_done rfl ?_
  refine a_rseq ?_
  refine rg_put (d := 5) (v := .pt 101 0) rfl (og rfl (of_eff (s_field_pt rfl Try.underlying25 rfl ti9 rfl rfl rfl) rfl)) ?_
  refine rg_put (d := 6) (v := .d (.fl (.string a.id))) rfl (og rfl (op_load_pt rfl Try.underlying9 rfl rfl rfl rfl rfl)) ?_
  refine rg_put (d := 7) (v := .pt 102 0) rfl (og rfl (of_eff (s_field_pt rfl Try.underlying25 rfl ti9 rfl rfl rfl) rfl)) ?_
  refine rg_put (d := 8) (v := .d (.fl (.string b.id))) rfl (og rfl (op_load_pt rfl Try.underlying9 rfl rfl rfl rfl rfl)) ?_
  refine rg_put (d := 9) (v := .d (.fl (.bool (sEq a.id b.id)))) rfl (og rfl (op_bin rfl rfl rfl (b_seq _ _ _) rfl)) ?_
  refine rg_put (d := 10) (v := .d (.fl (.bool (sEq a.id b.id)))) rfl (og rfl (op_move rfl rfl rfl)) ?_
  rcases fot (sEq a.id b.id) with h1 | h1
  · skip
    refine rg_put (d := 11) (v := .d (.fl undef)) rfl (on rfl rfl rfl h1) ?_
    refine rg_put (d := 12) (v := .d (.fl undef)) rfl (on rfl rfl rfl h1) ?_
    refine rg_put (d := 13) (v := .d (.fl undef)) rfl (on rfl rfl rfl h1) ?_
    refine rg_put (d := 14) (v := .d (.fl undef)) rfl (on rfl rfl rfl h1) ?_
    refine rg_put (d := 15) (v := .d (.fl undef)) rfl (on rfl rfl rfl h1) ?_
    refine rg_put (d := 16) (v := .d (.fl (.bool false))) rfl (og rfl (op_pick rfl rfl (by rw [h1]; rfl) rfl)) ?_
    refine rg_put (d := 17) (v := .d (.fl (.bool false))) rfl (og rfl (op_move rfl rfl rfl)) ?_
    refine rg_put (d := 18) (v := .d (.fl undef)) rfl (on rfl rfl rfl rfl) ?_
    refine rg_put (d := 19) (v := .d (.fl undef)) rfl (on rfl rfl rfl rfl) ?_
    refine rg_put (d := 20) (v := .d (.fl undef)) rfl (on rfl rfl rfl rfl) ?_
    refine rg_put (d := 21) (v := .d (.fl undef)) rfl (on rfl rfl rfl rfl) ?_
    refine rg_put (d := 22) (v := .d (.fl undef)) rfl (on rfl rfl rfl rfl) ?_
    refine rg_put (d := 23) (v := .d (.fl (.bool false))) rfl (og rfl (op_pick rfl rfl rfl rfl)) ?_
    refine rg_put (d := 24) (v := .d (.fl (.bool false))) rfl (og rfl (op_move rfl rfl rfl)) ?_
    refine rg_put (d := 25) (v := .d (.fl undef)) rfl (on rfl rfl rfl rfl) ?_
    refine rg_put (d := 26) (v := .d (.fl undef)) rfl (on rfl rfl rfl rfl) ?_
    refine rg_put (d := 27) (v := .d (.fl undef)) rfl (on rfl rfl rfl rfl) ?_
    refine rg_put (d := 28) (v := .d (.fl undef)) rfl (on rfl rfl rfl rfl) ?_
    refine rg_put (d := 29) (v := .d (.fl undef)) rfl (on rfl rfl rfl rfl) ?_
    refine rg_put (d := 30) (v := .d (.fl (.bool false))) rfl (og rfl (op_pick rfl rfl rfl rfl)) ?_
    refine rg_put (d := 31) (v := .d (.fl (.bool false))) rfl (og rfl (op_move rfl rfl rfl)) ?_
    refine rg_put (d := 32) (v := .d (.fl undef)) rfl (on rfl rfl rfl rfl) ?_
    refine rg_put (d := 33) (v := .d (.fl undef)) rfl (on rfl rfl rfl rfl) ?_
    refine rg_put (d := 34) (v := .d (.fl undef)) rfl (on rfl rfl rfl rfl) ?_
    refine rg_put (d := 35) (v := .d (.fl undef)) rfl (on rfl rfl rfl rfl) ?_
    refine rg_put (d := 36) (v := .d (.fl undef)) rfl (on rfl rfl rfl rfl) ?_
    refine rg_put (d := 37) (v := .d (.fl (.bool false))) rfl (og rfl (op_pick rfl rfl rfl rfl)) ?_
    refine rg_put (d := 4) (v := .d (.fl (.bool false))) rfl (og rfl (op_assign rfl rfl rfl)) ?_
    refine rg_done rfl ?_
    refine a_ret ?_
    show ∃ ds, ResL _ _ _ ds ∧ RV.of ds = _
    refine ⟨[.fl (.bool false)], (.cons (.tmp rfl (.d _)) .nil), ?_⟩
    have hu : imEq a b = false := by
      unfold imEq; simp only [h1, Bool.true_and, Bool.false_and, Bool.and_false, Bool.and_true, Bool.not_true, Bool.not_false]
    rw [hu]; rfl
  · skip
    refine rg_put (d := 11) (v := .pt 101 1) rfl (oy rfl rfl rfl h1 (of_eff (s_field_pt rfl Try.underlying25 rfl ti3 rfl rfl rfl) rfl)) ?_
    refine rg_put (d := 12) (v := .d (.fl (.int .i64 a.time))) rfl (oy rfl rfl rfl h1 (op_load_pt rfl Try.underlying3 rfl rfl rfl rfl rfl)) ?_
    refine rg_put (d := 13) (v := .pt 102 1) rfl (oy rfl rfl rfl h1 (of_eff (s_field_pt rfl Try.underlying25 rfl ti3 rfl rfl rfl) rfl)) ?_
    refine rg_put (d := 14) (v := .d (.fl (.int .i64 b.time))) rfl (oy rfl rfl rfl h1 (op_load_pt rfl Try.underlying3 rfl rfl rfl rfl rfl)) ?_
    refine rg_put (d := 15) (v := .d (.fl (.bool (a.time == b.time)))) rfl (oy rfl rfl rfl h1 (op_bin rfl rfl rfl (b_eql _ _ _ _) rfl)) ?_
    refine rg_put (d := 16) (v := .d (.fl (.bool (a.time == b.time)))) rfl (og rfl (op_pick rfl rfl (by rw [h1]; rfl) rfl)) ?_
    refine rg_put (d := 17) (v := .d (.fl (.bool (a.time == b.time)))) rfl (og rfl (op_move rfl rfl rfl)) ?_
    rcases fot (a.time == b.time) with h2 | h2
    · skip
      have h3 := f_beq h2
      refine rg_put (d := 18) (v := .d (.fl undef)) rfl (on rfl rfl rfl h2) ?_
      refine rg_put (d := 19) (v := .d (.fl undef)) rfl (on rfl rfl rfl h2) ?_
      refine rg_put (d := 20) (v := .d (.fl undef)) rfl (on rfl rfl rfl h2) ?_
      refine rg_put (d := 21) (v := .d (.fl undef)) rfl (on rfl rfl rfl h2) ?_
      refine rg_put (d := 22) (v := .d (.fl undef)) rfl (on rfl rfl rfl h2) ?_
      refine rg_put (d := 23) (v := .d (.fl (.bool false))) rfl (og rfl (op_pick rfl rfl (by rw [h2]; rfl) rfl)) ?_
      refine rg_put (d := 24) (v := .d (.fl (.bool false))) rfl (og rfl (op_move rfl rfl rfl)) ?_
      refine rg_put (d := 25) (v := .d (.fl undef)) rfl (on rfl rfl rfl rfl) ?_
      refine rg_put (d := 26) (v := .d (.fl undef)) rfl (on rfl rfl rfl rfl) ?_
      refine rg_put (d := 27) (v := .d (.fl undef)) rfl (on rfl rfl rfl rfl) ?_
      refine rg_put (d := 28) (v := .d (.fl undef)) rfl (on rfl rfl rfl rfl) ?_
      refine rg_put (d := 29) (v := .d (.fl undef)) rfl (on rfl rfl rfl rfl) ?_
      refine rg_put (d := 30) (v := .d (.fl (.bool false))) rfl (og rfl (op_pick rfl rfl rfl rfl)) ?_
      refine rg_put (d := 31) (v := .d (.fl (.bool false))) rfl (og rfl (op_move rfl rfl rfl)) ?_
      refine rg_put (d := 32) (v := .d (.fl undef)) rfl (on rfl rfl rfl rfl) ?_
      refine rg_put (d := 33) (v := .d (.fl undef)) rfl (on rfl rfl rfl rfl) ?_
      refine rg_put (d := 34) (v := .d (.fl undef)) rfl (on rfl rfl rfl rfl) ?_
      refine rg_put (d := 35) (v := .d (.fl undef)) rfl (on rfl rfl rfl rfl) ?_
      refine rg_put (d := 36) (v := .d (.fl undef)) rfl (on rfl rfl rfl rfl) ?_
      refine rg_put (d := 37) (v := .d (.fl (.bool false))) rfl (og rfl (op_pick rfl rfl rfl rfl)) ?_
      refine rg_put (d := 4) (v := .d (.fl (.bool false))) rfl (og rfl (op_assign rfl rfl rfl)) ?_
      refine rg_done rfl ?_
      refine a_ret ?_
      show ∃ ds, ResL _ _ _ ds ∧ RV.of ds = _
      refine ⟨[.fl (.bool false)], (.cons (.tmp rfl (.d _)) .nil), ?_⟩
      have hu : imEq a b = false := by
        unfold imEq; simp only [h1, h2, Bool.true_and, Bool.false_and, Bool.and_false, Bool.and_true, Bool.not_true, Bool.not_false]
      rw [hu]; rfl
    · skip
      have h4 := t_beq h2
      refine rg_put (d := 18) (v := .pt 101 2) rfl (oy rfl rfl rfl h2 (of_eff (s_field_pt rfl Try.underlying25 rfl ti3 rfl rfl rfl) rfl)) ?_
      refine rg_put (d := 19) (v := .d (.fl (.int .i64 a.purpose))) rfl (oy rfl rfl rfl h2 (op_load_pt rfl Try.underlying3 rfl rfl rfl rfl rfl)) ?_
      refine rg_put (d := 20) (v := .pt 102 2) rfl (oy rfl rfl rfl h2 (of_eff (s_field_pt rfl Try.underlying25 rfl ti3 rfl rfl rfl) rfl)) ?_
      refine rg_put (d := 21) (v := .d (.fl (.int .i64 b.purpose))) rfl (oy rfl rfl rfl h2 (op_load_pt rfl Try.underlying3 rfl rfl rfl rfl rfl)) ?_
      refine rg_put (d := 22) (v := .d (.fl (.bool (a.purpose == b.purpose)))) rfl (oy rfl rfl rfl h2 (op_bin rfl rfl rfl (b_eql _ _ _ _) rfl)) ?_
      refine rg_put (d := 23) (v := .d (.fl (.bool (a.purpose == b.purpose)))) rfl (og rfl (op_pick rfl rfl (by rw [h2]; rfl) rfl)) ?_
      refine rg_put (d := 24) (v := .d (.fl (.bool (a.purpose == b.purpose)))) rfl (og rfl (op_move rfl rfl rfl)) ?_
      rcases fot (a.purpose == b.purpose) with h5 | h5
      · skip
        have h6 := f_beq h5
        refine rg_put (d := 25) (v := .d (.fl undef)) rfl (on rfl rfl rfl h5) ?_
        refine rg_put (d := 26) (v := .d (.fl undef)) rfl (on rfl rfl rfl h5) ?_
        refine rg_put (d := 27) (v := .d (.fl undef)) rfl (on rfl rfl rfl h5) ?_
        refine rg_put (d := 28) (v := .d (.fl undef)) rfl (on rfl rfl rfl h5) ?_
        refine rg_put (d := 29) (v := .d (.fl undef)) rfl (on rfl rfl rfl h5) ?_
        refine rg_put (d := 30) (v := .d (.fl (.bool false))) rfl (og rfl (op_pick rfl rfl (by rw [h5]; rfl) rfl)) ?_
        refine rg_put (d := 31) (v := .d (.fl (.bool false))) rfl (og rfl (op_move rfl rfl rfl)) ?_
        refine rg_put (d := 32) (v := .d (.fl undef)) rfl (on rfl rfl rfl rfl) ?_
        refine rg_put (d := 33) (v := .d (.fl undef)) rfl (on rfl rfl rfl rfl) ?_
        refine rg_put (d := 34) (v := .d (.fl undef)) rfl (on rfl rfl rfl rfl) ?_
        refine rg_put (d := 35) (v := .d (.fl undef)) rfl (on rfl rfl rfl rfl) ?_
        refine rg_put (d := 36) (v := .d (.fl undef)) rfl (on rfl rfl rfl rfl) ?_
        refine rg_put (d := 37) (v := .d (.fl (.bool false))) rfl (og rfl (op_pick rfl rfl rfl rfl)) ?_
        refine rg_put (d := 4) (v := .d (.fl (.bool false))) rfl (og rfl (op_assign rfl rfl rfl)) ?_
        refine rg_done rfl ?_
        refine a_ret ?_
        show ∃ ds, ResL _ _ _ ds ∧ RV.of ds = _
        refine ⟨[.fl (.bool false)], (.cons (.tmp rfl (.d _)) .nil), ?_⟩
        have hu : imEq a b = false := by
          unfold imEq; simp only [h1, h2, h5, Bool.true_and, Bool.false_and, Bool.and_false, Bool.and_true, Bool.not_true, Bool.not_false]
        rw [hu]; rfl
      · skip
        have h7 := t_beq h5
        refine rg_put (d := 25) (v := .pt 101 4) rfl (oy rfl rfl rfl h5 (of_eff (s_field_pt rfl Try.underlying25 rfl ti23 rfl rfl rfl) rfl)) ?_
        refine rg_put (d := 26) (v := .d (.fl (.int .u64 a.dig))) rfl (oy rfl rfl rfl h5 (op_load_pt rfl Try.underlying23 rfl rfl rfl rfl rfl)) ?_
        refine rg_put (d := 27) (v := .pt 102 4) rfl (oy rfl rfl rfl h5 (of_eff (s_field_pt rfl Try.underlying25 rfl ti23 rfl rfl rfl) rfl)) ?_
        refine rg_put (d := 28) (v := .d (.fl (.int .u64 b.dig))) rfl (oy rfl rfl rfl h5 (op_load_pt rfl Try.underlying23 rfl rfl rfl rfl rfl)) ?_
        refine rg_put (d := 29) (v := .d (.fl (.bool (a.dig == b.dig)))) rfl (oy rfl rfl rfl h5 (op_bin rfl rfl rfl (b_eql _ _ _ _) rfl)) ?_
        refine rg_put (d := 30) (v := .d (.fl (.bool (a.dig == b.dig)))) rfl (og rfl (op_pick rfl rfl (by rw [h5]; rfl) rfl)) ?_
        refine rg_put (d := 31) (v := .d (.fl (.bool (a.dig == b.dig)))) rfl (og rfl (op_move rfl rfl rfl)) ?_
        rcases fot (a.dig == b.dig) with h8 | h8
        · skip
          have h9 := f_beq h8
          refine rg_put (d := 32) (v := .d (.fl undef)) rfl (on rfl rfl rfl h8) ?_
          refine rg_put (d := 33) (v := .d (.fl undef)) rfl (on rfl rfl rfl h8) ?_
          refine rg_put (d := 34) (v := .d (.fl undef)) rfl (on rfl rfl rfl h8) ?_
          refine rg_put (d := 35) (v := .d (.fl undef)) rfl (on rfl rfl rfl h8) ?_
          refine rg_put (d := 36) (v := .d (.fl undef)) rfl (on rfl rfl rfl h8) ?_
          refine rg_put (d := 37) (v := .d (.fl (.bool false))) rfl (og rfl (op_pick rfl rfl (by rw [h8]; rfl) rfl)) ?_
          refine rg_put (d := 4) (v := .d (.fl (.bool false))) rfl (og rfl (op_assign rfl rfl rfl)) ?_
          refine rg_done rfl ?_
          refine a_ret ?_
          show ∃ ds, ResL _ _ _ ds ∧ RV.of ds = _
          refine ⟨[.fl (.bool false)], (.cons (.tmp rfl (.d _)) .nil), ?_⟩
          have hu : imEq a b = false := by
            unfold imEq; simp only [h1, h2, h5, h8, Bool.true_and, Bool.false_and, Bool.and_false, Bool.and_true, Bool.not_true, Bool.not_false]
          rw [hu]; rfl
        · skip
          have h10 := t_beq h8
          refine rg_put (d := 32) (v := .pt 101 3) rfl (oy rfl rfl rfl h8 (of_eff (s_field_pt rfl Try.underlying25 rfl ti22 rfl rfl rfl) rfl)) ?_
          refine rg_put (d := 33) (v := .d (.sl 1 (List.map rS a.hold))) rfl (oy rfl rfl rfl h8 (op_load_pt rfl Try.underlying22 rfl rfl rfl rfl rfl)) ?_
          refine rg_put (d := 34) (v := .pt 102 3) rfl (oy rfl rfl rfl h8 (of_eff (s_field_pt rfl Try.underlying25 rfl ti22 rfl rfl rfl) rfl)) ?_
          refine rg_put (d := 35) (v := .d (.sl 1 (List.map rS b.hold))) rfl (oy rfl rfl rfl h8 (op_load_pt rfl Try.underlying22 rfl rfl rfl rfl rfl)) ?_
          refine rg_put (d := 36) (v := .d (.fl (.bool (lEq a.hold b.hold)))) rfl (oy rfl rfl rfl h8 (op_call rfl Try.func45 nm45 rfl (.cons rfl (.d _) (.cons rfl (.d _) .nil)) (eqS45 a.hold b.hold (by first | omega | (simp only [List.length_take]; omega))) rfl)) ?_
          refine rg_put (d := 37) (v := .d (.fl (.bool (lEq a.hold b.hold)))) rfl (og rfl (op_pick rfl rfl (by rw [h8]; rfl) rfl)) ?_
          refine rg_put (d := 4) (v := .d (.fl (.bool (lEq a.hold b.hold)))) rfl (og rfl (op_assign rfl rfl rfl)) ?_
          refine rg_done rfl ?_
          refine a_ret ?_
          show ∃ ds, ResL _ _ _ ds ∧ RV.of ds = _
          refine ⟨[.fl (.bool (lEq a.hold b.hold))], (.cons (.tmp rfl (.d _)) .nil), ?_⟩
          have hu : imEq a b = (lEq a.hold b.hold) := by
            unfold imEq; simp only [h1, h2, h5, h8, Bool.true_and, Bool.false_and, Bool.and_false, Bool.and_true, Bool.not_true, Bool.not_false]
          rw [hu]; rfl
set_option maxHeartbeats 4000000 in
set_option maxRecDepth 100000 in
theorem first23 (a b : Pk) (hA : a.images.length ≤ 2000) (hB : b.images.length ≤ 2000) (hz : ∀ im ∈ a.images, im.hold.length < 9223372036854775807) : Ctr Try.prog 23 [.ag (ePk a), .ag (ePk b)] (.d (.fl (.int .i64 (fstD a.images b.images)))) := by
  refine ctr (n := 44) (rs := #[.tmp 4]) (L := [(0, .d (.ag (ePk a))), (1, .d (.ag (ePk b)))]) Try.func23 rfl rfl rfl rfl rfl (fun w0 U0 => ?_)
  refine a_rseq ?_
  refine rg_nam (d := 2) (v := .pt 101 0) (m := 101) (nw := [(101, .bx 33 (ePk a))]) rfl (og rfl (of_eff (op_box 101 rfl rfl rfl rfl) rfl)) rfl ?_
  refine rg_nam (d := 3) (v := .pt 102 0) (m := 102) (nw := [(102, .bx 33 (ePk b))]) rfl (og rfl (of_eff (op_box 102 rfl rfl rfl rfl) rfl)) rfl ?_
  refine rg_put (d := 4) (v := .d (.fl (.int .i64 0))) rfl (og rfl (op_assign rfl rfl rfl)) ?_
  refine rg_done rfl ?_
  refine a_seq ?_
  refine a_rseq ?_
  refine rg_put (d := 6) (v := .pt 101 1) rfl (og rfl (of_eff (s_field_pt rfl Try.underlying33 rfl ti29 rfl rfl rfl) rfl)) ?_
  refine rg_put (d := 7) (v := .d (.sl 5 (List.map eIm a.images))) rfl (og rfl (op_load_pt rfl Try.underlying29 rfl rfl rfl rfl rfl)) ?_
  refine rg_put (d := 8) (v := .d (.fl (.int .i64 (a.images.length : Int)))) rfl (og rfl (s_len rfl Try.underlying29 rfl rfl)) ?_
  refine rg_put (d := 9) (v := .pt 102 1) rfl (og rfl (of_eff (s_field_pt rfl Try.underlying33 rfl ti29 rfl rfl rfl) rfl)) ?_
  refine rg_put (d := 10) (v := .d (.sl 5 (List.map eIm b.images))) rfl (og rfl (op_load_pt rfl Try.underlying29 rfl rfl rfl rfl rfl)) ?_
  refine rg_put (d := 11) (v := .d (.fl (.int .i64 (b.images.length : Int)))) rfl (og rfl (s_len rfl Try.underlying29 rfl rfl)) ?_
  refine rg_put (d := 12) (v := .d (.fl (.int .i64 ((max (a.images.length : Int) (b.images.length : Int)))))) rfl (og rfl (op_max rfl rfl rfl rfl)) ?_
  refine rg_put (d := 13) (v := .d (.fl (.int .i64 0))) rfl (og rfl (op_move rfl rfl rfl)) ?_
  refine rg_done rfl ?_
  refine a_block ?_
  refine a_loop (ι := Nat) (fun k => SS [(0, .d (.ag (ePk a))), (1, .d (.ag (ePk b))), (2, .pt 101 0), (3, .pt 102 0), (12, .d (.fl (.int .i64 ((max (a.images.length : Int) (b.images.length : Int)))))), (13, .d (.fl (.int .i64 (k : Int))))] [(101, .bx 33 (ePk a)), (102, .bx 33 (ePk b))]) (fun k => k ≤ max a.images.length b.images.length ∧ ∀ q, q < k → gd a.images b.images q = true) (fun k => max a.images.length b.images.length - k) 0 (⟨by omega, fun q h => by omega⟩) (imp_forget rfl ⟨rfl, rfl, rfl, rfl, rfl, (by first | rfl | exact ci (by omega) | exact ci (by simp) | exact cd (by simp) | simp), trivial⟩ ⟨rfl, rfl, trivial⟩) (fun k hok => ?_)
  obtain ⟨hk, hq⟩ := hok
  refine a_rseq ?_
  refine rg_put (d := 14) (v := .d (.fl (.bool ((decide ((k : Int) < (max (a.images.length : Int) (b.images.length : Int)))))))) rfl (og rfl (op_bin rfl rfl rfl (b_lss _ _ _ _) rfl)) ?_
  refine rg_done rfl ?_
  refine a_seq ?_
  refine a_cond rfl (fun h1 => ?_) (fun h1 => ?_)
  · skip
    have h2 := t_dec h1
    refine a_skip ?_
    show A _ _ _ _ _ _ _
    refine a_seq ?_
    refine a_block ?_
    refine a_rseq ?_
    refine rg_put (d := 15) (v := .d (.fl (.int .i64 (k : Int)))) rfl (og rfl (op_move rfl rfl rfl)) ?_
    refine rg_put (d := 5) (v := .d (.fl (.int .i64 (k : Int)))) rfl (og rfl (op_assign rfl rfl rfl)) ?_
    refine rg_done rfl ?_
    refine a_dseq (by kernel_rfl) ?_
    refine dr_put (d := 16) (v := .d (.fl (.int .i64 (k : Int)))) rfl (og rfl (op_move rfl rfl rfl)) ?_
    refine dr_put (d := 17) (v := .pt 101 1) rfl (og rfl (of_eff (s_field_pt rfl Try.underlying33 rfl ti29 rfl rfl rfl) rfl)) ?_
    refine dr_put (d := 18) (v := .d (.sl 5 (List.map eIm a.images))) rfl (og rfl (op_load_pt rfl Try.underlying29 rfl rfl rfl rfl rfl)) ?_
    refine dr_put (d := 19) (v := .d (.fl (.int .i64 (a.images.length : Int)))) rfl (og rfl (s_len rfl Try.underlying29 rfl rfl)) ?_
    refine dr_put (d := 20) (v := .d (.fl (.bool ((decide ((a.images.length : Int) ≤ (k : Int))))))) rfl (og rfl (op_bin rfl rfl rfl (b_geq _ _ _ _) rfl)) ?_
    refine dr_put (d := 21) (v := .d (.fl (.bool ((decide ((a.images.length : Int) ≤ (k : Int))))))) rfl (og rfl (op_move rfl rfl rfl)) ?_
    rcases fot ((decide ((a.images.length : Int) ≤ (k : Int)))) with h3 | h3
    · skip
      have h4 := f_dec h3
      refine dr_put (d := 22) (v := .d (.fl (.int .i64 (k : Int)))) rfl (oy rfl rfl rfl h3 (op_move rfl rfl rfl)) ?_
      refine dr_put (d := 23) (v := .pt 102 1) rfl (oy rfl rfl rfl h3 (of_eff (s_field_pt rfl Try.underlying33 rfl ti29 rfl rfl rfl) rfl)) ?_
      refine dr_put (d := 24) (v := .d (.sl 5 (List.map eIm b.images))) rfl (oy rfl rfl rfl h3 (op_load_pt rfl Try.underlying29 rfl rfl rfl rfl rfl)) ?_
      refine dr_put (d := 25) (v := .d (.fl (.int .i64 (b.images.length : Int)))) rfl (oy rfl rfl rfl h3 (s_len rfl Try.underlying29 rfl rfl)) ?_
      refine dr_put (d := 26) (v := .d (.fl (.bool ((decide ((b.images.length : Int) ≤ (k : Int))))))) rfl (oy rfl rfl rfl h3 (op_bin rfl rfl rfl (b_geq _ _ _ _) rfl)) ?_
      refine dr_put (d := 27) (v := .d (.fl (.bool ((decide ((b.images.length : Int) ≤ (k : Int))))))) rfl (og rfl (op_pick rfl rfl (by rw [h3]; rfl) rfl)) ?_
      refine dr_put (d := 28) (v := .d (.fl (.bool ((decide ((b.images.length : Int) ≤ (k : Int))))))) rfl (og rfl (op_move rfl rfl rfl)) ?_
      rcases fot ((decide ((b.images.length : Int) ≤ (k : Int)))) with h5 | h5
      · skip
        have h6 := f_dec h5
        refine dr_put (d := 29) (v := .pt 101 1) rfl (oy rfl rfl rfl h5 (of_eff (s_field_pt rfl Try.underlying33 rfl ti29 rfl rfl rfl) rfl)) ?_
        refine dr_put (d := 30) (v := .d (.sl 5 (List.map eIm a.images))) rfl (oy rfl rfl rfl h5 (op_load_pt rfl Try.underlying29 rfl rfl rfl rfl rfl)) ?_
        refine dr_put (d := 31) (v := .d (.fl (.int .i64 (k : Int)))) rfl (oy rfl rfl rfl h5 (op_move rfl rfl rfl)) ?_
        refine dr_put (d := 32) (v := .el ((eIm (ix a.images k)))) rfl (oy rfl rfl rfl h5 (s_index rfl Try.underlying29 ti25 rfl rfl (by omega) (row_at (by omega)) rfl)) ?_
        refine dr_put (d := 33) (v := .d (.ag (eIm (ix a.images k)))) rfl (oy rfl rfl rfl h5 (of_eff (s_load_els rfl Try.underlying25 rfl ti25 rfl rfl rfl) rfl)) ?_
        refine dr_put (d := 34) (v := .pt 102 1) rfl (oy rfl rfl rfl h5 (of_eff (s_field_pt rfl Try.underlying33 rfl ti29 rfl rfl rfl) rfl)) ?_
        refine dr_put (d := 35) (v := .d (.sl 5 (List.map eIm b.images))) rfl (oy rfl rfl rfl h5 (op_load_pt rfl Try.underlying29 rfl rfl rfl rfl rfl)) ?_
        refine dr_put (d := 36) (v := .d (.fl (.int .i64 (k : Int)))) rfl (oy rfl rfl rfl h5 (op_move rfl rfl rfl)) ?_
        refine dr_put (d := 37) (v := .el ((eIm (ix b.images k)))) rfl (oy rfl rfl rfl h5 (s_index rfl Try.underlying29 ti25 rfl rfl (by omega) (row_at (by omega)) rfl)) ?_
        refine dr_put (d := 38) (v := .d (.ag (eIm (ix b.images k)))) rfl (oy rfl rfl rfl h5 (of_eff (s_load_els rfl Try.underlying25 rfl ti25 rfl rfl rfl) rfl)) ?_
        refine dr_put (d := 39) (v := .d (.fl (.bool ((imEq (ix a.images k) (ix b.images k)))))) rfl (oy rfl rfl rfl h5 (op_call rfl Try.func44 nm44 rfl (.cons rfl (.d _) (.cons rfl (.d _) .nil)) (same44 (ix a.images k) (ix b.images k) (hz _ (ix_mem (by omega)))) rfl)) ?_
        refine dr_put (d := 40) (v := .d (.fl (.bool ((!((imEq (ix a.images k) (ix b.images k)))))))) rfl (oy rfl rfl rfl h5 (op_un rfl rfl (u_not _) rfl)) ?_
        refine dr_put (d := 41) (v := .d (.fl (.bool ((!((imEq (ix a.images k) (ix b.images k)))))))) rfl (og rfl (op_pick rfl rfl (by rw [h5]; rfl) rfl)) ?_
        refine dr_done rfl (sepB_of [0, 0, 2, 6, 15, 31, 63, 63, 191, 447, 1023, 2047, 4095, 8191, 16383, 8191, 65535, 131071, 8191, 270335, 8191, 1843199, 3940351, 8388607, 16777215, 33554431] (by kernel_rfl)) (by kernel_rfl) ?_
        refine a_cond rfl (fun h7 => ?_) (fun h7 => ?_)
        · skip
          have h8 := t_not h7
          refine a_rseq ?_
          refine rg_put (d := 42) (v := .d (.fl (.int .i64 (k : Int)))) rfl (og rfl (op_move rfl rfl rfl)) ?_
          refine rg_put (d := 4) (v := .d (.fl (.int .i64 (k : Int)))) rfl (og rfl (op_assign rfl rfl rfl)) ?_
          refine rg_done rfl ?_
          refine a_ret ?_
          show ∃ ds, ResL _ _ _ ds ∧ RV.of ds = _
          refine ⟨[.fl (.int .i64 (k : Int))], (.cons (.tmp rfl (.d _)) .nil), ?_⟩
          rw [fstD_at (k := k) (by omega) (by unfold gd; simp only [h8, Bool.and_false]) hq]; rfl
        · skip
          have h9 := f_not h7
          refine a_skip ?_
          show A _ _ _ _ _ _ _
          refine a_region ?_
          refine rg_put (d := 43) (v := .d (.fl (.int .i64 (((k : Int) + 1))))) rfl (og rfl (op_bin rfl rfl rfl (fun x y w => b_add64 _ _ _ x y w (by omega)) rfl)) ?_
          refine rg_put (d := 13) (v := .d (.fl (.int .i64 (((k : Int) + 1))))) rfl (og rfl (op_move rfl rfl rfl)) ?_
          refine rg_done rfl ?_
          have hg : gd a.images b.images k = true := by unfold gd; simp only [decide_eq_true (show k < a.images.length by omega), decide_eq_true (show k < b.images.length by omega), h9, Bool.and_self]
          show ∃ i, _ ∧ _ ∧ Imp _ _ _ _ _
          refine ⟨k + 1, ⟨by omega, fun q h => (Nat.lt_succ_iff_lt_or_eq.1 h).elim (hq q) (fun e => by rw [e]; exact hg)⟩, by omega, imp_forget rfl ⟨rfl, rfl, rfl, rfl, rfl, (by first | rfl | exact ci (by omega) | exact ci (by simp) | exact cd (by simp) | simp), trivial⟩ ⟨rfl, rfl, trivial⟩⟩
      · skip
        have h10 := t_dec h5
        refine dr_put (d := 29) (v := .d (.fl undef)) rfl (on rfl rfl rfl h5) ?_
        refine dr_put (d := 30) (v := .d (.fl undef)) rfl (on rfl rfl rfl h5) ?_
        refine dr_put (d := 31) (v := .d (.fl undef)) rfl (on rfl rfl rfl h5) ?_
        refine dr_put (d := 32) (v := .d (.fl undef)) rfl (on rfl rfl rfl h5) ?_
        refine dr_put (d := 33) (v := .d (.fl undef)) rfl (on rfl rfl rfl h5) ?_
        refine dr_put (d := 34) (v := .d (.fl undef)) rfl (on rfl rfl rfl h5) ?_
        refine dr_put (d := 35) (v := .d (.fl undef)) rfl (on rfl rfl rfl h5) ?_
        refine dr_put (d := 36) (v := .d (.fl undef)) rfl (on rfl rfl rfl h5) ?_
        refine dr_put (d := 37) (v := .d (.fl undef)) rfl (on rfl rfl rfl h5) ?_
        refine dr_put (d := 38) (v := .d (.fl undef)) rfl (on rfl rfl rfl h5) ?_
        refine dr_put (d := 39) (v := .d (.fl undef)) rfl (on rfl rfl rfl h5) ?_
        refine dr_put (d := 40) (v := .d (.fl undef)) rfl (on rfl rfl rfl h5) ?_
        refine dr_put (d := 41) (v := .d (.fl (.bool true))) rfl (og rfl (op_pick rfl rfl (by rw [h5]; rfl) rfl)) ?_
        refine dr_done rfl (sepB_of [0, 0, 2, 6, 15, 31, 63, 63, 191, 447, 1023, 2047, 4095, 8191, 16383, 8191, 65535, 131071, 8191, 270335, 8191, 1843199, 3940351, 8388607, 16777215, 33554431] (by kernel_rfl)) (by kernel_rfl) ?_
        refine a_condK rfl rfl ?_
        refine a_rseq ?_
        refine rg_put (d := 42) (v := .d (.fl (.int .i64 (k : Int)))) rfl (og rfl (op_move rfl rfl rfl)) ?_
        refine rg_put (d := 4) (v := .d (.fl (.int .i64 (k : Int)))) rfl (og rfl (op_assign rfl rfl rfl)) ?_
        refine rg_done rfl ?_
        refine a_ret ?_
        show ∃ ds, ResL _ _ _ ds ∧ RV.of ds = _
        refine ⟨[.fl (.int .i64 (k : Int))], (.cons (.tmp rfl (.d _)) .nil), ?_⟩
        rw [fstD_at (k := k) (by omega) (by unfold gd; first | (rw [decide_eq_false (show ¬ k < a.images.length by omega)]; rfl) | (rw [decide_eq_false (show ¬ k < b.images.length by omega), Bool.and_false]; rfl)) hq]; rfl
    · skip
      have h11 := t_dec h3
      refine dr_put (d := 22) (v := .d (.fl undef)) rfl (on rfl rfl rfl h3) ?_
      refine dr_put (d := 23) (v := .d (.fl undef)) rfl (on rfl rfl rfl h3) ?_
      refine dr_put (d := 24) (v := .d (.fl undef)) rfl (on rfl rfl rfl h3) ?_
      refine dr_put (d := 25) (v := .d (.fl undef)) rfl (on rfl rfl rfl h3) ?_
      refine dr_put (d := 26) (v := .d (.fl undef)) rfl (on rfl rfl rfl h3) ?_
      refine dr_put (d := 27) (v := .d (.fl (.bool true))) rfl (og rfl (op_pick rfl rfl (by rw [h3]; rfl) rfl)) ?_
      refine dr_put (d := 28) (v := .d (.fl (.bool true))) rfl (og rfl (op_move rfl rfl rfl)) ?_
      refine dr_put (d := 29) (v := .d (.fl undef)) rfl (on rfl rfl rfl rfl) ?_
      refine dr_put (d := 30) (v := .d (.fl undef)) rfl (on rfl rfl rfl rfl) ?_
      refine dr_put (d := 31) (v := .d (.fl undef)) rfl (on rfl rfl rfl rfl) ?_
      refine dr_put (d := 32) (v := .d (.fl undef)) rfl (on rfl rfl rfl rfl) ?_
      refine dr_put (d := 33) (v := .d (.fl undef)) rfl (on rfl rfl rfl rfl) ?_
      refine dr_put (d := 34) (v := .d (.fl undef)) rfl (on rfl rfl rfl rfl) ?_
      refine dr_put (d := 35) (v := .d (.fl undef)) rfl (on rfl rfl rfl rfl) ?_
      refine dr_put (d := 36) (v := .d (.fl undef)) rfl (on rfl rfl rfl rfl) ?_
      refine dr_put (d := 37) (v := .d (.fl undef)) rfl (on rfl rfl rfl rfl) ?_
      refine dr_put (d := 38) (v := .d (.fl undef)) rfl (on rfl rfl rfl rfl) ?_
      refine dr_put (d := 39) (v := .d (.fl undef)) rfl (on rfl rfl rfl rfl) ?_
      refine dr_put (d := 40) (v := .d (.fl undef)) rfl (on rfl rfl rfl rfl) ?_
      refine dr_put (d := 41) (v := .d (.fl (.bool true))) rfl (og rfl (op_pick rfl rfl rfl rfl)) ?_
      refine dr_done rfl (sepB_of [0, 0, 2, 6, 15, 31, 63, 63, 191, 447, 1023, 2047, 4095, 8191, 16383, 8191, 65535, 131071, 8191, 270335, 8191, 1843199, 3940351, 8388607, 16777215, 33554431] (by kernel_rfl)) (by kernel_rfl) ?_
      refine a_condK rfl rfl ?_
      refine a_rseq ?_
      refine rg_put (d := 42) (v := .d (.fl (.int .i64 (k : Int)))) rfl (og rfl (op_move rfl rfl rfl)) ?_
      refine rg_put (d := 4) (v := .d (.fl (.int .i64 (k : Int)))) rfl (og rfl (op_assign rfl rfl rfl)) ?_
      refine rg_done rfl ?_
      refine a_ret ?_
      show ∃ ds, ResL _ _ _ ds ∧ RV.of ds = _
      refine ⟨[.fl (.int .i64 (k : Int))], (.cons (.tmp rfl (.d _)) .nil), ?_⟩
      rw [fstD_at (k := k) (by omega) (by unfold gd; first | (rw [decide_eq_false (show ¬ k < a.images.length by omega)]; rfl) | (rw [decide_eq_false (show ¬ k < b.images.length by omega), Bool.and_false]; rfl)) hq]; rfl
  · skip
    have h12 := f_dec h1
    refine a_exit ?_
    show A _ _ _ _ _ _ _
    refine a_rseq ?_
    refine rg_put (d := 4) (v := .d (.fl (.int .i64 (-1)))) rfl (og rfl (op_assign rfl rfl rfl)) ?_
    refine rg_done rfl ?_
    refine a_ret ?_
    show ∃ ds, ResL _ _ _ ds ∧ RV.of ds = _
    refine ⟨[.fl (.int .i64 (-1))], (.cons (.tmp rfl (.d _)) .nil), ?_⟩
    rw [fstD_none (fun q h => hq q (by omega))]; rfl
set_option maxHeartbeats 4000000 in
set_option maxRecDepth 100000 in
theorem first22 (a b : Pk) (hA : a.images.length ≤ 2000) (hB : b.images.length ≤ 2000) (hz : ∀ im ∈ a.images, im.hold.length < 9223372036854775807) : Ctr Try.prog 22 [.ag (ePk a), .ag (ePk b)] (.d (.fl (.int .i64 (fstD a.images b.images)))) := by
  refine ctr (n := 47) (rs := #[.tmp 4]) (L := [(0, .d (.ag (ePk a))), (1, .d (.ag (ePk b)))]) Try.func22 rfl rfl rfl rfl rfl (fun w0 U0 => ?_)
  refine a_rseq ?_
  refine rg_nam (d := 2) (v := .pt 101 0) (m := 101) (nw := [(101, .bx 33 (ePk a))]) rfl (og rfl (of_eff (op_box 101 rfl rfl rfl rfl) rfl)) rfl ?_
  refine rg_nam (d := 3) (v := .pt 102 0) (m := 102) (nw := [(102, .bx 33 (ePk b))]) rfl (og rfl (of_eff (op_box 102 rfl rfl rfl rfl) rfl)) rfl ?_
  refine rg_put (d := 4) (v := .d (.fl (.int .i64 0))) rfl (og rfl (op_assign rfl rfl rfl)) ?_
  refine rg_done rfl ?_
  refine a_seq ?_
  refine a_rseq ?_
  refine rg_put (d := 5) (v := .d (.fl (.int .i64 0))) rfl (og rfl (op_assign rfl rfl rfl)) ?_
  refine rg_done rfl ?_
  refine a_block ?_
  refine a_loop (ι := Nat) (fun k => SS [(0, .d (.ag (ePk a))), (1, .d (.ag (ePk b))), (2, .pt 101 0), (3, .pt 102 0), (5, .d (.fl (.int .i64 (k : Int))))] [(101, .bx 33 (ePk a)), (102, .bx 33 (ePk b))]) (fun k => k ≤ max a.images.length b.images.length ∧ ∀ q, q < k → gd a.images b.images q = true) (fun k => max a.images.length b.images.length - k) 0 (⟨by omega, fun q h => by omega⟩) (imp_forget rfl ⟨rfl, rfl, rfl, rfl, (by first | rfl | exact ci (by omega) | exact ci (by simp) | exact cd (by simp) | simp), trivial⟩ ⟨rfl, rfl, trivial⟩) (fun k hok => ?_)
  obtain ⟨hk, hq⟩ := hok
  refine a_seq ?_
  refine a_rseq ?_
  refine rg_put (d := 6) (v := .d (.fl (.int .i64 (k : Int)))) rfl (og rfl (op_move rfl rfl rfl)) ?_
  refine rg_put (d := 7) (v := .pt 101 1) rfl (og rfl (of_eff (s_field_pt rfl Try.underlying33 rfl ti29 rfl rfl rfl) rfl)) ?_
  refine rg_put (d := 8) (v := .d (.sl 5 (List.map eIm a.images))) rfl (og rfl (op_load_pt rfl Try.underlying29 rfl rfl rfl rfl rfl)) ?_
  refine rg_put (d := 9) (v := .d (.fl (.int .i64 (a.images.length : Int)))) rfl (og rfl (s_len rfl Try.underlying29 rfl rfl)) ?_
  refine rg_put (d := 10) (v := .d (.fl (.bool ((decide ((k : Int) < (a.images.length : Int))))))) rfl (og rfl (op_bin rfl rfl rfl (b_lss _ _ _ _) rfl)) ?_
  refine rg_put (d := 11) (v := .d (.fl (.bool ((decide ((k : Int) < (a.images.length : Int))))))) rfl (og rfl (op_move rfl rfl rfl)) ?_
  rcases fot ((decide ((k : Int) < (a.images.length : Int)))) with h1 | h1
  · skip
    have h2 := f_dec h1
    refine rg_put (d := 12) (v := .d (.fl (.int .i64 (k : Int)))) rfl (oy rfl rfl rfl h1 (op_move rfl rfl rfl)) ?_
    refine rg_put (d := 13) (v := .pt 102 1) rfl (oy rfl rfl rfl h1 (of_eff (s_field_pt rfl Try.underlying33 rfl ti29 rfl rfl rfl) rfl)) ?_
    refine rg_put (d := 14) (v := .d (.sl 5 (List.map eIm b.images))) rfl (oy rfl rfl rfl h1 (op_load_pt rfl Try.underlying29 rfl rfl rfl rfl rfl)) ?_
    refine rg_put (d := 15) (v := .d (.fl (.int .i64 (b.images.length : Int)))) rfl (oy rfl rfl rfl h1 (s_len rfl Try.underlying29 rfl rfl)) ?_
    refine rg_put (d := 16) (v := .d (.fl (.bool ((decide ((k : Int) < (b.images.length : Int))))))) rfl (oy rfl rfl rfl h1 (op_bin rfl rfl rfl (b_lss _ _ _ _) rfl)) ?_
    refine rg_put (d := 17) (v := .d (.fl (.bool ((decide ((k : Int) < (b.images.length : Int))))))) rfl (og rfl (op_pick rfl rfl (by rw [h1]; rfl) rfl)) ?_
    refine rg_done rfl ?_
    refine a_cond rfl (fun h3 => ?_) (fun h3 => ?_)
    · skip
      have h4 := t_dec h3
      refine a_skip ?_
      show A _ _ _ _ _ _ _
      refine a_seq ?_
      refine a_block ?_
      refine a_dseq (by kernel_rfl) ?_
      refine dr_put (d := 20) (v := .d (.fl (.int .i64 (k : Int)))) rfl (og rfl (op_move rfl rfl rfl)) ?_
      refine dr_put (d := 21) (v := .pt 101 1) rfl (og rfl (of_eff (s_field_pt rfl Try.underlying33 rfl ti29 rfl rfl rfl) rfl)) ?_
      refine dr_put (d := 22) (v := .d (.sl 5 (List.map eIm a.images))) rfl (og rfl (op_load_pt rfl Try.underlying29 rfl rfl rfl rfl rfl)) ?_
      refine dr_put (d := 23) (v := .d (.fl (.int .i64 (a.images.length : Int)))) rfl (og rfl (s_len rfl Try.underlying29 rfl rfl)) ?_
      refine dr_put (d := 24) (v := .d (.fl (.bool ((decide ((a.images.length : Int) ≤ (k : Int))))))) rfl (og rfl (op_bin rfl rfl rfl (b_geq _ _ _ _) rfl)) ?_
      refine dr_put (d := 25) (v := .d (.fl (.bool ((decide ((a.images.length : Int) ≤ (k : Int))))))) rfl (og rfl (op_move rfl rfl rfl)) ?_
      rcases fot ((decide ((a.images.length : Int) ≤ (k : Int)))) with h5 | h5
      · skip
        have h6 := f_dec h5
        refine dr_put (d := 26) (v := .d (.fl (.int .i64 (k : Int)))) rfl (oy rfl rfl rfl h5 (op_move rfl rfl rfl)) ?_
        refine dr_put (d := 27) (v := .pt 102 1) rfl (oy rfl rfl rfl h5 (of_eff (s_field_pt rfl Try.underlying33 rfl ti29 rfl rfl rfl) rfl)) ?_
        refine dr_put (d := 28) (v := .d (.sl 5 (List.map eIm b.images))) rfl (oy rfl rfl rfl h5 (op_load_pt rfl Try.underlying29 rfl rfl rfl rfl rfl)) ?_
        refine dr_put (d := 29) (v := .d (.fl (.int .i64 (b.images.length : Int)))) rfl (oy rfl rfl rfl h5 (s_len rfl Try.underlying29 rfl rfl)) ?_
        refine dr_put (d := 30) (v := .d (.fl (.bool ((decide ((b.images.length : Int) ≤ (k : Int))))))) rfl (oy rfl rfl rfl h5 (op_bin rfl rfl rfl (b_geq _ _ _ _) rfl)) ?_
        refine dr_put (d := 31) (v := .d (.fl (.bool ((decide ((b.images.length : Int) ≤ (k : Int))))))) rfl (og rfl (op_pick rfl rfl (by rw [h5]; rfl) rfl)) ?_
        refine dr_put (d := 32) (v := .d (.fl (.bool ((decide ((b.images.length : Int) ≤ (k : Int))))))) rfl (og rfl (op_move rfl rfl rfl)) ?_
        rcases fot ((decide ((b.images.length : Int) ≤ (k : Int)))) with h7 | h7
        · skip
          have h8 := f_dec h7
          refine dr_put (d := 33) (v := .pt 101 1) rfl (oy rfl rfl rfl h7 (of_eff (s_field_pt rfl Try.underlying33 rfl ti29 rfl rfl rfl) rfl)) ?_
          refine dr_put (d := 34) (v := .d (.sl 5 (List.map eIm a.images))) rfl (oy rfl rfl rfl h7 (op_load_pt rfl Try.underlying29 rfl rfl rfl rfl rfl)) ?_
          refine dr_put (d := 35) (v := .d (.fl (.int .i64 (k : Int)))) rfl (oy rfl rfl rfl h7 (op_move rfl rfl rfl)) ?_
          refine dr_put (d := 36) (v := .el ((eIm (ix a.images k)))) rfl (oy rfl rfl rfl h7 (s_index rfl Try.underlying29 ti25 rfl rfl (by omega) (row_at (by omega)) rfl)) ?_
          refine dr_put (d := 37) (v := .d (.ag (eIm (ix a.images k)))) rfl (oy rfl rfl rfl h7 (of_eff (s_load_els rfl Try.underlying25 rfl ti25 rfl rfl rfl) rfl)) ?_
          refine dr_put (d := 38) (v := .pt 102 1) rfl (oy rfl rfl rfl h7 (of_eff (s_field_pt rfl Try.underlying33 rfl ti29 rfl rfl rfl) rfl)) ?_
          refine dr_put (d := 39) (v := .d (.sl 5 (List.map eIm b.images))) rfl (oy rfl rfl rfl h7 (op_load_pt rfl Try.underlying29 rfl rfl rfl rfl rfl)) ?_
          refine dr_put (d := 40) (v := .d (.fl (.int .i64 (k : Int)))) rfl (oy rfl rfl rfl h7 (op_move rfl rfl rfl)) ?_
          refine dr_put (d := 41) (v := .el ((eIm (ix b.images k)))) rfl (oy rfl rfl rfl h7 (s_index rfl Try.underlying29 ti25 rfl rfl (by omega) (row_at (by omega)) rfl)) ?_
          refine dr_put (d := 42) (v := .d (.ag (eIm (ix b.images k)))) rfl (oy rfl rfl rfl h7 (of_eff (s_load_els rfl Try.underlying25 rfl ti25 rfl rfl rfl) rfl)) ?_
          refine dr_put (d := 43) (v := .d (.fl (.bool ((imEq (ix a.images k) (ix b.images k)))))) rfl (oy rfl rfl rfl h7 (op_call rfl Try.func24 nm24 rfl (.cons rfl (.d _) (.cons rfl (.d _) .nil)) (same24 (ix a.images k) (ix b.images k) (hz _ (ix_mem (by omega)))) rfl)) ?_
          refine dr_put (d := 44) (v := .d (.fl (.bool ((!((imEq (ix a.images k) (ix b.images k)))))))) rfl (oy rfl rfl rfl h7 (op_un rfl rfl (u_not _) rfl)) ?_
          refine dr_put (d := 45) (v := .d (.fl (.bool ((!((imEq (ix a.images k) (ix b.images k)))))))) rfl (og rfl (op_pick rfl rfl (by rw [h7]; rfl) rfl)) ?_
          refine dr_done rfl (sepB_of [0, 0, 2, 6, 15, 31, 63, 63, 191, 447, 1023, 2047, 4095, 8191, 16383, 8191, 65535, 131071, 8191, 270335, 8191, 1843199, 3940351, 8388607, 16777215, 33554431] (by kernel_rfl)) (by kernel_rfl) ?_
          refine a_cond rfl (fun h9 => ?_) (fun h9 => ?_)
          · skip
            have h10 := t_not h9
            refine a_rseq ?_
            refine rg_put (d := 46) (v := .d (.fl (.int .i64 (k : Int)))) rfl (og rfl (op_move rfl rfl rfl)) ?_
            refine rg_put (d := 4) (v := .d (.fl (.int .i64 (k : Int)))) rfl (og rfl (op_assign rfl rfl rfl)) ?_
            refine rg_done rfl ?_
            refine a_ret ?_
            show ∃ ds, ResL _ _ _ ds ∧ RV.of ds = _
            refine ⟨[.fl (.int .i64 (k : Int))], (.cons (.tmp rfl (.d _)) .nil), ?_⟩
            rw [fstD_at (k := k) (by omega) (by unfold gd; simp only [h10, Bool.and_false]) hq]; rfl
          · skip
            have h11 := f_not h9
            refine a_skip ?_
            show A _ _ _ _ _ _ _
            refine a_region ?_
            refine rg_put (d := 18) (v := .d (.fl (.int .i64 (k : Int)))) rfl (og rfl (op_move rfl rfl rfl)) ?_
            refine rg_put (d := 19) (v := .d (.fl (.int .i64 (((k : Int) + 1))))) rfl (og rfl (op_bin rfl rfl rfl (fun x y w => b_add64 _ _ _ x y w (by omega)) rfl)) ?_
            refine rg_put (d := 5) (v := .d (.fl (.int .i64 (((k : Int) + 1))))) rfl (og rfl (op_assign rfl rfl rfl)) ?_
            refine rg_done rfl ?_
            have hg : gd a.images b.images k = true := by unfold gd; simp only [decide_eq_true (show k < a.images.length by omega), decide_eq_true (show k < b.images.length by omega), h11, Bool.and_self]
            show ∃ i, _ ∧ _ ∧ Imp _ _ _ _ _
            refine ⟨k + 1, ⟨by omega, fun q h => (Nat.lt_succ_iff_lt_or_eq.1 h).elim (hq q) (fun e => by rw [e]; exact hg)⟩, by omega, imp_forget rfl ⟨rfl, rfl, rfl, rfl, (by first | rfl | exact ci (by omega) | exact ci (by simp) | exact cd (by simp) | simp), trivial⟩ ⟨rfl, rfl, trivial⟩⟩
        · skip
          have h12 := t_dec h7
          refine dr_put (d := 33) (v := .d (.fl undef)) rfl (on rfl rfl rfl h7) ?_
          refine dr_put (d := 34) (v := .d (.fl undef)) rfl (on rfl rfl rfl h7) ?_
          refine dr_put (d := 35) (v := .d (.fl undef)) rfl (on rfl rfl rfl h7) ?_
          refine dr_put (d := 36) (v := .d (.fl undef)) rfl (on rfl rfl rfl h7) ?_
          refine dr_put (d := 37) (v := .d (.fl undef)) rfl (on rfl rfl rfl h7) ?_
          refine dr_put (d := 38) (v := .d (.fl undef)) rfl (on rfl rfl rfl h7) ?_
          refine dr_put (d := 39) (v := .d (.fl undef)) rfl (on rfl rfl rfl h7) ?_
          refine dr_put (d := 40) (v := .d (.fl undef)) rfl (on rfl rfl rfl h7) ?_
          refine dr_put (d := 41) (v := .d (.fl undef)) rfl (on rfl rfl rfl h7) ?_
          refine dr_put (d := 42) (v := .d (.fl undef)) rfl (on rfl rfl rfl h7) ?_
          refine dr_put (d := 43) (v := .d (.fl undef)) rfl (on rfl rfl rfl h7) ?_
          refine dr_put (d := 44) (v := .d (.fl undef)) rfl (on rfl rfl rfl h7) ?_
          refine dr_put (d := 45) (v := .d (.fl (.bool true))) rfl (og rfl (op_pick rfl rfl (by rw [h7]; rfl) rfl)) ?_
          refine dr_done rfl (sepB_of [0, 0, 2, 6, 15, 31, 63, 63, 191, 447, 1023, 2047, 4095, 8191, 16383, 8191, 65535, 131071, 8191, 270335, 8191, 1843199, 3940351, 8388607, 16777215, 33554431] (by kernel_rfl)) (by kernel_rfl) ?_
          refine a_condK rfl rfl ?_
          refine a_rseq ?_
          refine rg_put (d := 46) (v := .d (.fl (.int .i64 (k : Int)))) rfl (og rfl (op_move rfl rfl rfl)) ?_
          refine rg_put (d := 4) (v := .d (.fl (.int .i64 (k : Int)))) rfl (og rfl (op_assign rfl rfl rfl)) ?_
          refine rg_done rfl ?_
          refine a_ret ?_
          show ∃ ds, ResL _ _ _ ds ∧ RV.of ds = _
          refine ⟨[.fl (.int .i64 (k : Int))], (.cons (.tmp rfl (.d _)) .nil), ?_⟩
          rw [fstD_at (k := k) (by omega) (by unfold gd; first | (rw [decide_eq_false (show ¬ k < a.images.length by omega)]; rfl) | (rw [decide_eq_false (show ¬ k < b.images.length by omega), Bool.and_false]; rfl)) hq]; rfl
      · skip
        have h13 := t_dec h5
        refine dr_put (d := 26) (v := .d (.fl undef)) rfl (on rfl rfl rfl h5) ?_
        refine dr_put (d := 27) (v := .d (.fl undef)) rfl (on rfl rfl rfl h5) ?_
        refine dr_put (d := 28) (v := .d (.fl undef)) rfl (on rfl rfl rfl h5) ?_
        refine dr_put (d := 29) (v := .d (.fl undef)) rfl (on rfl rfl rfl h5) ?_
        refine dr_put (d := 30) (v := .d (.fl undef)) rfl (on rfl rfl rfl h5) ?_
        refine dr_put (d := 31) (v := .d (.fl (.bool true))) rfl (og rfl (op_pick rfl rfl (by rw [h5]; rfl) rfl)) ?_
        refine dr_put (d := 32) (v := .d (.fl (.bool true))) rfl (og rfl (op_move rfl rfl rfl)) ?_
        refine dr_put (d := 33) (v := .d (.fl undef)) rfl (on rfl rfl rfl rfl) ?_
        refine dr_put (d := 34) (v := .d (.fl undef)) rfl (on rfl rfl rfl rfl) ?_
        refine dr_put (d := 35) (v := .d (.fl undef)) rfl (on rfl rfl rfl rfl) ?_
        refine dr_put (d := 36) (v := .d (.fl undef)) rfl (on rfl rfl rfl rfl) ?_
        refine dr_put (d := 37) (v := .d (.fl undef)) rfl (on rfl rfl rfl rfl) ?_
        refine dr_put (d := 38) (v := .d (.fl undef)) rfl (on rfl rfl rfl rfl) ?_
        refine dr_put (d := 39) (v := .d (.fl undef)) rfl (on rfl rfl rfl rfl) ?_
        refine dr_put (d := 40) (v := .d (.fl undef)) rfl (on rfl rfl rfl rfl) ?_
        refine dr_put (d := 41) (v := .d (.fl undef)) rfl (on rfl rfl rfl rfl) ?_
        refine dr_put (d := 42) (v := .d (.fl undef)) rfl (on rfl rfl rfl rfl) ?_
        refine dr_put (d := 43) (v := .d (.fl undef)) rfl (on rfl rfl rfl rfl) ?_
        refine dr_put (d := 44) (v := .d (.fl undef)) rfl (on rfl rfl rfl rfl) ?_
        refine dr_put (d := 45) (v := .d (.fl (.bool true))) rfl (og rfl (op_pick rfl rfl rfl rfl)) ?_
        refine dr_done rfl (sepB_of [0, 0, 2, 6, 15, 31, 63, 63, 191, 447, 1023, 2047, 4095, 8191, 16383, 8191, 65535, 131071, 8191, 270335, 8191, 1843199, 3940351, 8388607, 16777215, 33554431] (by kernel_rfl)) (by kernel_rfl) ?_
        refine a_condK rfl rfl ?_
        refine a_rseq ?_
        refine rg_put (d := 46) (v := .d (.fl (.int .i64 (k : Int)))) rfl (og rfl (op_move rfl rfl rfl)) ?_
        refine rg_put (d := 4) (v := .d (.fl (.int .i64 (k : Int)))) rfl (og rfl (op_assign rfl rfl rfl)) ?_
        refine rg_done rfl ?_
        refine a_ret ?_
        show ∃ ds, ResL _ _ _ ds ∧ RV.of ds = _
        refine ⟨[.fl (.int .i64 (k : Int))], (.cons (.tmp rfl (.d _)) .nil), ?_⟩
        rw [fstD_at (k := k) (by omega) (by unfold gd; first | (rw [decide_eq_false (show ¬ k < a.images.length by omega)]; rfl) | (rw [decide_eq_false (show ¬ k < b.images.length by omega), Bool.and_false]; rfl)) hq]; rfl
    · skip
      have h14 := f_dec h3
      refine a_exit ?_
      show A _ _ _ _ _ _ _
      refine a_rseq ?_
      refine rg_put (d := 4) (v := .d (.fl (.int .i64 (-1)))) rfl (og rfl (op_assign rfl rfl rfl)) ?_
      refine rg_done rfl ?_
      refine a_ret ?_
      show ∃ ds, ResL _ _ _ ds ∧ RV.of ds = _
      refine ⟨[.fl (.int .i64 (-1))], (.cons (.tmp rfl (.d _)) .nil), ?_⟩
      rw [fstD_none (fun q h => hq q (by omega))]; rfl
  · skip
    have h15 := t_dec h1
    refine rg_put (d := 12) (v := .d (.fl undef)) rfl (on rfl rfl rfl h1) ?_
    refine rg_put (d := 13) (v := .d (.fl undef)) rfl (on rfl rfl rfl h1) ?_
    refine rg_put (d := 14) (v := .d (.fl undef)) rfl (on rfl rfl rfl h1) ?_
    refine rg_put (d := 15) (v := .d (.fl undef)) rfl (on rfl rfl rfl h1) ?_
    refine rg_put (d := 16) (v := .d (.fl undef)) rfl (on rfl rfl rfl h1) ?_
    refine rg_put (d := 17) (v := .d (.fl (.bool true))) rfl (og rfl (op_pick rfl rfl (by rw [h1]; rfl) rfl)) ?_
    refine rg_done rfl ?_
    refine a_condK rfl rfl ?_
    refine a_skip ?_
    show A _ _ _ _ _ _ _
    refine a_seq ?_
    refine a_block ?_
    refine a_dseq (by kernel_rfl) ?_
    refine dr_put (d := 20) (v := .d (.fl (.int .i64 (k : Int)))) rfl (og rfl (op_move rfl rfl rfl)) ?_
    refine dr_put (d := 21) (v := .pt 101 1) rfl (og rfl (of_eff (s_field_pt rfl Try.underlying33 rfl ti29 rfl rfl rfl) rfl)) ?_
    refine dr_put (d := 22) (v := .d (.sl 5 (List.map eIm a.images))) rfl (og rfl (op_load_pt rfl Try.underlying29 rfl rfl rfl rfl rfl)) ?_
    refine dr_put (d := 23) (v := .d (.fl (.int .i64 (a.images.length : Int)))) rfl (og rfl (s_len rfl Try.underlying29 rfl rfl)) ?_
    refine dr_put (d := 24) (v := .d (.fl (.bool ((decide ((a.images.length : Int) ≤ (k : Int))))))) rfl (og rfl (op_bin rfl rfl rfl (b_geq _ _ _ _) rfl)) ?_
    refine dr_put (d := 25) (v := .d (.fl (.bool ((decide ((a.images.length : Int) ≤ (k : Int))))))) rfl (og rfl (op_move rfl rfl rfl)) ?_
    rcases fot ((decide ((a.images.length : Int) ≤ (k : Int)))) with h16 | h16
    · skip
      have h17 := f_dec h16
      refine dr_put (d := 26) (v := .d (.fl (.int .i64 (k : Int)))) rfl (oy rfl rfl rfl h16 (op_move rfl rfl rfl)) ?_
      refine dr_put (d := 27) (v := .pt 102 1) rfl (oy rfl rfl rfl h16 (of_eff (s_field_pt rfl Try.underlying33 rfl ti29 rfl rfl rfl) rfl)) ?_
      refine dr_put (d := 28) (v := .d (.sl 5 (List.map eIm b.images))) rfl (oy rfl rfl rfl h16 (op_load_pt rfl Try.underlying29 rfl rfl rfl rfl rfl)) ?_
      refine dr_put (d := 29) (v := .d (.fl (.int .i64 (b.images.length : Int)))) rfl (oy rfl rfl rfl h16 (s_len rfl Try.underlying29 rfl rfl)) ?_
      refine dr_put (d := 30) (v := .d (.fl (.bool ((decide ((b.images.length : Int) ≤ (k : Int))))))) rfl (oy rfl rfl rfl h16 (op_bin rfl rfl rfl (b_geq _ _ _ _) rfl)) ?_
      refine dr_put (d := 31) (v := .d (.fl (.bool ((decide ((b.images.length : Int) ≤ (k : Int))))))) rfl (og rfl (op_pick rfl rfl (by rw [h16]; rfl) rfl)) ?_
      refine dr_put (d := 32) (v := .d (.fl (.bool ((decide ((b.images.length : Int) ≤ (k : Int))))))) rfl (og rfl (op_move rfl rfl rfl)) ?_
      rcases fot ((decide ((b.images.length : Int) ≤ (k : Int)))) with h18 | h18
      · skip
        have h19 := f_dec h18
        refine dr_put (d := 33) (v := .pt 101 1) rfl (oy rfl rfl rfl h18 (of_eff (s_field_pt rfl Try.underlying33 rfl ti29 rfl rfl rfl) rfl)) ?_
        refine dr_put (d := 34) (v := .d (.sl 5 (List.map eIm a.images))) rfl (oy rfl rfl rfl h18 (op_load_pt rfl Try.underlying29 rfl rfl rfl rfl rfl)) ?_
        refine dr_put (d := 35) (v := .d (.fl (.int .i64 (k : Int)))) rfl (oy rfl rfl rfl h18 (op_move rfl rfl rfl)) ?_
        refine dr_put (d := 36) (v := .el ((eIm (ix a.images k)))) rfl (oy rfl rfl rfl h18 (s_index rfl Try.underlying29 ti25 rfl rfl (by omega) (row_at (by omega)) rfl)) ?_
        refine dr_put (d := 37) (v := .d (.ag (eIm (ix a.images k)))) rfl (oy rfl rfl rfl h18 (of_eff (s_load_els rfl Try.underlying25 rfl ti25 rfl rfl rfl) rfl)) ?_
        refine dr_put (d := 38) (v := .pt 102 1) rfl (oy rfl rfl rfl h18 (of_eff (s_field_pt rfl Try.underlying33 rfl ti29 rfl rfl rfl) rfl)) ?_
        refine dr_put (d := 39) (v := .d (.sl 5 (List.map eIm b.images))) rfl (oy rfl rfl rfl h18 (op_load_pt rfl Try.underlying29 rfl rfl rfl rfl rfl)) ?_
        refine dr_put (d := 40) (v := .d (.fl (.int .i64 (k : Int)))) rfl (oy rfl rfl rfl h18 (op_move rfl rfl rfl)) ?_
        refine dr_put (d := 41) (v := .el ((eIm (ix b.images k)))) rfl (oy rfl rfl rfl h18 (s_index rfl Try.underlying29 ti25 rfl rfl (by omega) (row_at (by omega)) rfl)) ?_
        refine dr_put (d := 42) (v := .d (.ag (eIm (ix b.images k)))) rfl (oy rfl rfl rfl h18 (of_eff (s_load_els rfl Try.underlying25 rfl ti25 rfl rfl rfl) rfl)) ?_
        refine dr_put (d := 43) (v := .d (.fl (.bool ((imEq (ix a.images k) (ix b.images k)))))) rfl (oy rfl rfl rfl h18 (op_call rfl Try.func24 nm24 rfl (.cons rfl (.d _) (.cons rfl (.d _) .nil)) (same24 (ix a.images k) (ix b.images k) (hz _ (ix_mem (by omega)))) rfl)) ?_
        refine dr_put (d := 44) (v := .d (.fl (.bool ((!((imEq (ix a.images k) (ix b.images k)))))))) rfl (oy rfl rfl rfl h18 (op_un rfl rfl (u_not _) rfl)) ?_
        refine dr_put (d := 45) (v := .d (.fl (.bool ((!((imEq (ix a.images k) (ix b.images k)))))))) rfl (og rfl (op_pick rfl rfl (by rw [h18]; rfl) rfl)) ?_
        refine dr_done rfl (sepB_of [0, 0, 2, 6, 15, 31, 63, 63, 191, 447, 1023, 2047, 4095, 8191, 16383, 8191, 65535, 131071, 8191, 270335, 8191, 1843199, 3940351, 8388607, 16777215, 33554431] (by kernel_rfl)) (by kernel_rfl) ?_
        refine a_cond rfl (fun h20 => ?_) (fun h20 => ?_)
        · skip
          have h21 := t_not h20
          refine a_rseq ?_
          refine rg_put (d := 46) (v := .d (.fl (.int .i64 (k : Int)))) rfl (og rfl (op_move rfl rfl rfl)) ?_
          refine rg_put (d := 4) (v := .d (.fl (.int .i64 (k : Int)))) rfl (og rfl (op_assign rfl rfl rfl)) ?_
          refine rg_done rfl ?_
          refine a_ret ?_
          show ∃ ds, ResL _ _ _ ds ∧ RV.of ds = _
          refine ⟨[.fl (.int .i64 (k : Int))], (.cons (.tmp rfl (.d _)) .nil), ?_⟩
          rw [fstD_at (k := k) (by omega) (by unfold gd; simp only [h21, Bool.and_false]) hq]; rfl
        · skip
          have h22 := f_not h20
          refine a_skip ?_
          show A _ _ _ _ _ _ _
          refine a_region ?_
          refine rg_put (d := 18) (v := .d (.fl (.int .i64 (k : Int)))) rfl (og rfl (op_move rfl rfl rfl)) ?_
          refine rg_put (d := 19) (v := .d (.fl (.int .i64 (((k : Int) + 1))))) rfl (og rfl (op_bin rfl rfl rfl (fun x y w => b_add64 _ _ _ x y w (by omega)) rfl)) ?_
          refine rg_put (d := 5) (v := .d (.fl (.int .i64 (((k : Int) + 1))))) rfl (og rfl (op_assign rfl rfl rfl)) ?_
          refine rg_done rfl ?_
          have hg : gd a.images b.images k = true := by unfold gd; simp only [decide_eq_true (show k < a.images.length by omega), decide_eq_true (show k < b.images.length by omega), h22, Bool.and_self]
          show ∃ i, _ ∧ _ ∧ Imp _ _ _ _ _
          refine ⟨k + 1, ⟨by omega, fun q h => (Nat.lt_succ_iff_lt_or_eq.1 h).elim (hq q) (fun e => by rw [e]; exact hg)⟩, by omega, imp_forget rfl ⟨rfl, rfl, rfl, rfl, (by first | rfl | exact ci (by omega) | exact ci (by simp) | exact cd (by simp) | simp), trivial⟩ ⟨rfl, rfl, trivial⟩⟩
      · skip
        have h23 := t_dec h18
        refine dr_put (d := 33) (v := .d (.fl undef)) rfl (on rfl rfl rfl h18) ?_
        refine dr_put (d := 34) (v := .d (.fl undef)) rfl (on rfl rfl rfl h18) ?_
        refine dr_put (d := 35) (v := .d (.fl undef)) rfl (on rfl rfl rfl h18) ?_
        refine dr_put (d := 36) (v := .d (.fl undef)) rfl (on rfl rfl rfl h18) ?_
        refine dr_put (d := 37) (v := .d (.fl undef)) rfl (on rfl rfl rfl h18) ?_
        refine dr_put (d := 38) (v := .d (.fl undef)) rfl (on rfl rfl rfl h18) ?_
        refine dr_put (d := 39) (v := .d (.fl undef)) rfl (on rfl rfl rfl h18) ?_
        refine dr_put (d := 40) (v := .d (.fl undef)) rfl (on rfl rfl rfl h18) ?_
        refine dr_put (d := 41) (v := .d (.fl undef)) rfl (on rfl rfl rfl h18) ?_
        refine dr_put (d := 42) (v := .d (.fl undef)) rfl (on rfl rfl rfl h18) ?_
        refine dr_put (d := 43) (v := .d (.fl undef)) rfl (on rfl rfl rfl h18) ?_
        refine dr_put (d := 44) (v := .d (.fl undef)) rfl (on rfl rfl rfl h18) ?_
        refine dr_put (d := 45) (v := .d (.fl (.bool true))) rfl (og rfl (op_pick rfl rfl (by rw [h18]; rfl) rfl)) ?_
        refine dr_done rfl (sepB_of [0, 0, 2, 6, 15, 31, 63, 63, 191, 447, 1023, 2047, 4095, 8191, 16383, 8191, 65535, 131071, 8191, 270335, 8191, 1843199, 3940351, 8388607, 16777215, 33554431] (by kernel_rfl)) (by kernel_rfl) ?_
        refine a_condK rfl rfl ?_
        refine a_rseq ?_
        refine rg_put (d := 46) (v := .d (.fl (.int .i64 (k : Int)))) rfl (og rfl (op_move rfl rfl rfl)) ?_
        refine rg_put (d := 4) (v := .d (.fl (.int .i64 (k : Int)))) rfl (og rfl (op_assign rfl rfl rfl)) ?_
        refine rg_done rfl ?_
        refine a_ret ?_
        show ∃ ds, ResL _ _ _ ds ∧ RV.of ds = _
        refine ⟨[.fl (.int .i64 (k : Int))], (.cons (.tmp rfl (.d _)) .nil), ?_⟩
        rw [fstD_at (k := k) (by omega) (by unfold gd; first | (rw [decide_eq_false (show ¬ k < a.images.length by omega)]; rfl) | (rw [decide_eq_false (show ¬ k < b.images.length by omega), Bool.and_false]; rfl)) hq]; rfl
    · skip
      have h24 := t_dec h16
      refine dr_put (d := 26) (v := .d (.fl undef)) rfl (on rfl rfl rfl h16) ?_
      refine dr_put (d := 27) (v := .d (.fl undef)) rfl (on rfl rfl rfl h16) ?_
      refine dr_put (d := 28) (v := .d (.fl undef)) rfl (on rfl rfl rfl h16) ?_
      refine dr_put (d := 29) (v := .d (.fl undef)) rfl (on rfl rfl rfl h16) ?_
      refine dr_put (d := 30) (v := .d (.fl undef)) rfl (on rfl rfl rfl h16) ?_
      refine dr_put (d := 31) (v := .d (.fl (.bool true))) rfl (og rfl (op_pick rfl rfl (by rw [h16]; rfl) rfl)) ?_
      refine dr_put (d := 32) (v := .d (.fl (.bool true))) rfl (og rfl (op_move rfl rfl rfl)) ?_
      refine dr_put (d := 33) (v := .d (.fl undef)) rfl (on rfl rfl rfl rfl) ?_
      refine dr_put (d := 34) (v := .d (.fl undef)) rfl (on rfl rfl rfl rfl) ?_
      refine dr_put (d := 35) (v := .d (.fl undef)) rfl (on rfl rfl rfl rfl) ?_
      refine dr_put (d := 36) (v := .d (.fl undef)) rfl (on rfl rfl rfl rfl) ?_
      refine dr_put (d := 37) (v := .d (.fl undef)) rfl (on rfl rfl rfl rfl) ?_
      refine dr_put (d := 38) (v := .d (.fl undef)) rfl (on rfl rfl rfl rfl) ?_
      refine dr_put (d := 39) (v := .d (.fl undef)) rfl (on rfl rfl rfl rfl) ?_
      refine dr_put (d := 40) (v := .d (.fl undef)) rfl (on rfl rfl rfl rfl) ?_
      refine dr_put (d := 41) (v := .d (.fl undef)) rfl (on rfl rfl rfl rfl) ?_
      refine dr_put (d := 42) (v := .d (.fl undef)) rfl (on rfl rfl rfl rfl) ?_
      refine dr_put (d := 43) (v := .d (.fl undef)) rfl (on rfl rfl rfl rfl) ?_
      refine dr_put (d := 44) (v := .d (.fl undef)) rfl (on rfl rfl rfl rfl) ?_
      refine dr_put (d := 45) (v := .d (.fl (.bool true))) rfl (og rfl (op_pick rfl rfl rfl rfl)) ?_
      refine dr_done rfl (sepB_of [0, 0, 2, 6, 15, 31, 63, 63, 191, 447, 1023, 2047, 4095, 8191, 16383, 8191, 65535, 131071, 8191, 270335, 8191, 1843199, 3940351, 8388607, 16777215, 33554431] (by kernel_rfl)) (by kernel_rfl) ?_
      refine a_condK rfl rfl ?_
      refine a_rseq ?_
      refine rg_put (d := 46) (v := .d (.fl (.int .i64 (k : Int)))) rfl (og rfl (op_move rfl rfl rfl)) ?_
      refine rg_put (d := 4) (v := .d (.fl (.int .i64 (k : Int)))) rfl (og rfl (op_assign rfl rfl rfl)) ?_
      refine rg_done rfl ?_
      refine a_ret ?_
      show ∃ ds, ResL _ _ _ ds ∧ RV.of ds = _
      refine ⟨[.fl (.int .i64 (k : Int))], (.cons (.tmp rfl (.d _)) .nil), ?_⟩
      rw [fstD_at (k := k) (by omega) (by unfold gd; first | (rw [decide_eq_false (show ¬ k < a.images.length by omega)]; rfl) | (rw [decide_eq_false (show ¬ k < b.images.length by omega), Bool.and_false]; rfl)) hq]; rfl
end Go.Proofs.Ytfkipmdaffhkbaa.Wk
