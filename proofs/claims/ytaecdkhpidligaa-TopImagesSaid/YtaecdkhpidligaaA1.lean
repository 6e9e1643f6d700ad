/- Digests. No condition. -/
import Derived.Test.YtaecdkhpidligaaTy
set_option linter.unusedSimpArgs false
set_option linter.unusedVariables false
namespace Go.Proofs.Ytaecdkhpidligaa.Wk
open Go Go.RowKit Go.Proofs.Ytaecdkhpidligaa.Av
theorem ne_self_b (a : Int) : (a != a) = false := by simp
theorem sEq_eq {a b : ByteArray} (h : sEq a b = true) : a = b := of_decide_eq_true h
theorem sEq_of {a b : ByteArray} (h : a = b) : sEq a b = true := decide_eq_true h
theorem nb {b : Bool} (h : ¬ b = true) : b = false := by cases b <;> simp at h ⊢
theorem nnb {b : Bool} (h : ¬ (!b) = true) : b = true := by cases b <;> simp at h ⊢

def hs (l : List Int) : Nat → Int
  | 0 => 14695981039346656037
  | k + 1 => IntKind.u64.wrap (bits .xor .u64 (hs l k) (IntKind.u64.wrap (ix l k)) * 1099511628211)
theorem hs_succ (l : List Int) (k : Nat) : hs l (k + 1) = IntKind.u64.wrap (bits .xor .u64 (hs l k) (IntKind.u64.wrap (ix l k)) * 1099511628211) := rfl
def hsh (l : List Int) : Int := hs l l.length

set_option maxHeartbeats 4000000 in
set_option maxRecDepth 100000 in
theorem dig_hash (l : List Int) (hl : l.length < 9223372036854775807) : Ctr Try.prog 29 [.sl 1 (List.map (rI .u8) l)] (.d (.fl (.int .u64 (hsh l)))) := by
  refine ctr (n := 19) (rs := #[.tmp 2]) (L := [(0, .d (.sl 1 (List.map (rI .u8) l)))]) Try.func29 rfl rfl rfl rfl rfl (fun w0 U0 => ?_)
  refine a_rseq ?_
  refine rg_put (d := 2) (v := .d (.fl (.int .u64 0))) rfl (og rfl (op_assign rfl rfl rfl)) ?_
  refine rg_done rfl ?_
  refine a_rseq ?_
  refine rg_put (d := 3) (v := .d (.fl (.int .u64 14695981039346656037))) rfl (og rfl (op_assign rfl rfl rfl)) ?_
  refine rg_done rfl ?_
  refine a_seq ?_
  refine a_rseq ?_
  refine rg_put (d := 6) (v := .d (.sl 1 (List.map (rI .u8) l))) rfl (og rfl (op_move rfl rfl rfl)) ?_
  refine rg_put (d := 7) (v := .d (.fl (.int .i64 (l.length : Int)))) rfl (og rfl (s_len rfl Try.underlying67 rfl rfl)) ?_
  refine rg_put (d := 8) (v := .d (.fl (.int .i64 0))) rfl (og rfl (op_move rfl rfl rfl)) ?_
  refine rg_done rfl ?_
  refine a_block ?_
  refine a_loop (ι := Nat) (fun k => SS [(0, .d (.sl 1 (List.map (rI .u8) l))), (2, .d (.fl (.int .u64 0))), (6, .d (.sl 1 (List.map (rI .u8) l))), (7, .d (.fl (.int .i64 (l.length : Int)))), (8, .d (.fl (.int .i64 (k : Int)))), (3, .d (.fl (.int .u64 (hs l k))))] []) (fun k => k ≤ l.length) (fun k => l.length - k) 0 (by omega) (imp_forget rfl ⟨rfl, rfl, rfl, rfl, (by first | rfl | exact ci (by omega) | exact ci (by simp) | exact cd (by simp) | simp), rfl, trivial⟩ trivial) (fun k hok => ?_)
  have hk := hok
  refine a_rseq ?_
  refine rg_put (d := 9) (v := .d (.fl (.bool ((decide ((k : Int) < (l.length : Int))))))) rfl (og rfl (op_bin rfl rfl rfl (b_lss _ _ _ _) rfl)) ?_
  refine rg_done rfl ?_
  refine a_seq ?_
  refine a_cond rfl (fun h1 => ?_) (fun h1 => ?_)
  · skip
    have h2 := t_dec h1
    refine a_skip ?_
    show A _ _ _ _ _ _ _
    refine a_seq ?_
    refine a_block ?_
    refine a_rseq ?_
    refine rg_put (d := 10) (v := .el ((rI .u8 (ix l k)))) rfl (og rfl (s_index rfl Try.underlying67 ti5 rfl rfl (by omega) (row_at (by omega)) rfl)) ?_
    refine rg_put (d := 11) (v := .d (.fl (.int .u8 (ix l k)))) rfl (og rfl (op_load_el rfl Try.underlying5 rfl rfl rfl rfl)) ?_
    refine rg_put (d := 5) (v := .d (.fl (.int .u8 (ix l k)))) rfl (og rfl (op_assign rfl rfl rfl)) ?_
    refine rg_done rfl ?_
    refine a_region ?_
    refine rg_put (d := 12) (v := .d (.fl (.int .u64 (hs l k)))) rfl (og rfl (op_move rfl rfl rfl)) ?_
    refine rg_put (d := 13) (v := .d (.fl (.int .u8 (ix l k)))) rfl (og rfl (op_move rfl rfl rfl)) ?_
    refine rg_put (d := 14) (v := .d (.fl (.int .u64 ((IntKind.u64.wrap (ix l k)))))) rfl (og rfl (op_convK rfl Try.underlying5 Try.underlying38 rfl rfl)) ?_
    refine rg_put (d := 15) (v := .d (.fl (.int .u64 ((bits .xor .u64 (hs l k) ((IntKind.u64.wrap (ix l k)))))))) rfl (og rfl (op_bin rfl rfl rfl (b_xor _ _ _ _) rfl)) ?_
    refine rg_put (d := 16) (v := .d (.fl (.int .u64 ((IntKind.u64.wrap (((bits .xor .u64 (hs l k) ((IntKind.u64.wrap (ix l k))))) * 1099511628211)))))) rfl (og rfl (op_bin rfl rfl rfl (b_mul _ _ _ _) rfl)) ?_
    refine rg_put (d := 3) (v := .d (.fl (.int .u64 ((IntKind.u64.wrap (((bits .xor .u64 (hs l k) ((IntKind.u64.wrap (ix l k))))) * 1099511628211)))))) rfl (og rfl (op_assign rfl rfl rfl)) ?_
    refine rg_done rfl ?_
    show A _ _ _ _ _ _ _
    refine a_region ?_
    refine rg_put (d := 17) (v := .d (.fl (.int .i64 (((k : Int) + 1))))) rfl (og rfl (op_bin rfl rfl rfl (fun x y w => b_add64 _ _ _ x y w (by omega)) rfl)) ?_
    refine rg_put (d := 8) (v := .d (.fl (.int .i64 (((k : Int) + 1))))) rfl (og rfl (op_move rfl rfl rfl)) ?_
    refine rg_done rfl ?_
    show ∃ i, _ ∧ _ ∧ Imp _ _ _ _ _
    refine ⟨k + 1, (by omega), by omega, imp_forget rfl ⟨rfl, rfl, rfl, rfl, (by first | rfl | exact ci (by omega) | exact ci (by simp) | exact cd (by simp) | simp), rfl, trivial⟩ trivial⟩
  · skip
    have h3 := f_dec h1
    refine a_exit ?_
    show A _ _ _ _ _ _ _
    refine a_rseq ?_
    refine rg_put (d := 18) (v := .d (.fl (.int .u64 (hs l k)))) rfl (og rfl (op_move rfl rfl rfl)) ?_
    refine rg_put (d := 2) (v := .d (.fl (.int .u64 (hs l k)))) rfl (og rfl (op_assign rfl rfl rfl)) ?_
    refine rg_done rfl ?_
    refine a_ret ?_
    show ∃ ds, ResL _ _ _ ds ∧ RV.of ds = _
    refine ⟨[.fl (.int .u64 (hs l k))], (.cons (.tmp rfl (.d _)) .nil), ?_⟩
    have hkl : k = l.length := by omega
    subst hkl
    rfl
end Go.Proofs.Ytaecdkhpidligaa.Wk
