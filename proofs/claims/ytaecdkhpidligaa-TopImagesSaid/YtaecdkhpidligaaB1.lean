/- Digests of two digests. Condition: numbers of 64 bits. -/
import Derived.Test.YtaecdkhpidligaaB0
set_option linter.unusedSimpArgs false
set_option linter.unusedVariables false
namespace Go.Proofs.Ytaecdkhpidligaa.Wk
open Go Go.RowKit Go.Proofs.Ytaecdkhpidligaa.Av
def pb (k : Nat) : Nat := 72057594037927936 / 256 ^ k
def byt (x : Int) (k : Nat) : Int := IntKind.u8.wrap (x / (pb k : Int))
def be (x : Int) : List Int := (List.range 8).map (byt x)
theorem be_len (x : Int) : (be x).length = 8 := rfl
theorem lt8 {k : Nat} (h : k < 8) : k = 0 ∨ k = 1 ∨ k = 2 ∨ k = 3 ∨ k = 4 ∨ k = 5 ∨ k = 6 ∨ k = 7 := by omega
theorem pb_pos {k : Nat} (h : k < 8) : 0 < pb k := by rcases lt8 h with rfl | rfl | rfl | rfl | rfl | rfl | rfl | rfl <;> decide
theorem pb_le (k : Nat) : pb k ≤ 72057594037927936 := Nat.div_le_self _ _
theorem pb_succ {k : Nat} (h : k < 8) : IntKind.u64.wrap ((pb k : Int) / 256) = (pb (k + 1) : Int) := by rcases lt8 h with rfl | rfl | rfl | rfl | rfl | rfl | rfl | rfl <;> decide
theorem be_take {k : Nat} (x : Int) (h : k < 8) : (be x).take k ++ [byt x k] = (be x).take (k + 1) := by rcases lt8 h with rfl | rfl | rfl | rfl | rfl | rfl | rfl | rfl <;> rfl
theorem pw_pb {k : Nat} (h : k < 8) : (2 : Int) ^ min ((56 - (8 * (k : Int)))).toNat IntKind.u64.bits = (pb k : Int) := by rcases lt8 h with rfl | rfl | rfl | rfl | rfl | rfl | rfl | rfl <;> decide
theorem byt_shr {k : Nat} (x : Int) (h : k < 8) : IntKind.u8.wrap (x / 2 ^ min ((56 - (8 * (k : Int)))).toNat IntKind.u64.bits) = byt x k := by rw [pw_pb h]; rfl
theorem byt_rem {k : Nat} {x : Int} (h : k < 8) (hx : 0 ≤ x ∧ x ≤ 18446744073709551615) : IntKind.u8.wrap (IntKind.u64.wrap (x / (pb k : Int)) % 256) = byt x k := by
  have hp : (0 : Int) < (pb k : Int) := by have := pb_pos h; omega
  have h1 : 0 ≤ x / (pb k : Int) := Int.ediv_nonneg hx.1 (by omega)
  have h2 : x / (pb k : Int) ≤ x := Int.ediv_le_self _ hx.1
  unfold byt
  rw [IntKind.wrap_u64, IntKind.wrap_u8, IntKind.wrap_u8, Int.emod_eq_of_lt h1 (by omega)]
  omega
theorem u64_nn (a : Int) : 0 ≤ IntKind.u64.wrap a := by rw [IntKind.wrap_u64]; omega
def jarr (a b : Int) : Nat → List Int
  | 0 => List.replicate 16 0
  | k + 1 => ((jarr a b k).set k (byt a k)).set (8 + k) (byt b k)
theorem jarr_len (a b : Int) : ∀ k, (jarr a b k).length = 16
  | 0 => rfl
  | k + 1 => by show (((jarr a b k).set k (byt a k)).set (8 + k) (byt b k)).length = 16; rw [List.length_set, List.length_set]; exact jarr_len a b k
theorem jarr_all (a b : Int) : jarr a b 8 = be a ++ be b := rfl
def jn (a b : Int) : Int := hsh (be a ++ be b)

set_option maxHeartbeats 4000000 in
set_option maxRecDepth 100000 in
theorem join41 (a b : Int) (ha : (0 ≤ a ∧ a ≤ 18446744073709551615)) (hb : (0 ≤ b ∧ b ≤ 18446744073709551615)) : Ctr Try.prog 37 [.fl (.int .u64 a), .fl (.int .u64 b)] (.d (.fl (.int .u64 (jn a b)))) := by
  refine ctr (n := 30) (rs := #[.tmp 4]) (L := [(0, .d (.fl (.int .u64 a))), (1, .d (.fl (.int .u64 b)))]) Try.func37 rfl rfl rfl rfl rfl (fun w0 U0 => ?_)
  refine a_rseq ?_
  refine rg_put (d := 4) (v := .d (.fl (.int .u64 0))) rfl (og rfl (op_assign rfl rfl rfl)) ?_
  refine rg_done rfl ?_
  refine a_rseq ?_
  refine rg_nam (d := 5) (v := .pt 101 0) (m := 101) (nw := [(101, .bx 78 [.fl (.int .u8 0), .fl (.int .u8 0), .fl (.int .u8 0), .fl (.int .u8 0), .fl (.int .u8 0), .fl (.int .u8 0), .fl (.int .u8 0), .fl (.int .u8 0), .fl (.int .u8 0), .fl (.int .u8 0), .fl (.int .u8 0), .fl (.int .u8 0), .fl (.int .u8 0), .fl (.int .u8 0), .fl (.int .u8 0), .fl (.int .u8 0)])]) rfl (og rfl (of_eff (s_alloc 101 rfl ti78 (by kernel_rfl) rfl) rfl)) rfl ?_
  refine rg_done rfl ?_
  refine a_seq ?_
  refine a_rseq ?_
  refine rg_put (d := 7) (v := .d (.fl (.int .i64 0))) rfl (og rfl (op_move rfl rfl rfl)) ?_
  refine rg_done rfl ?_
  refine a_block ?_
  refine a_loop (ι := Nat) (fun k => SS [(0, .d (.fl (.int .u64 a))), (1, .d (.fl (.int .u64 b))), (4, .d (.fl (.int .u64 0))), (5, .pt 101 0), (7, .d (.fl (.int .i64 (k : Int))))] [(101, .bx 78 ((List.map (cI .u8) (jarr a b k))))]) (fun k => k ≤ 8) (fun k => 8 - k) 0 (by omega) (imp_forget rfl ⟨rfl, rfl, rfl, rfl, (by first | rfl | exact ci (by omega) | exact ci (by simp) | exact cd (by simp) | simp), trivial⟩ ⟨(by first | rfl | simp), trivial⟩) (fun k hok => ?_)
  have hk := hok
  have hjl := jarr_len a b k
  refine a_rseq ?_
  refine rg_put (d := 8) (v := .d (.fl (.bool ((decide ((k : Int) < 8)))))) rfl (og rfl (op_bin rfl rfl rfl (b_lss _ _ _ _) rfl)) ?_
  refine rg_done rfl ?_
  refine a_seq ?_
  refine a_cond rfl (fun h1 => ?_) (fun h1 => ?_)
  · skip
    have h2 := t_dec h1
    refine a_skip ?_
    show A _ _ _ _ _ _ _
    refine a_seq ?_
    refine a_block ?_
    refine a_rseq ?_
    refine rg_put (d := 9) (v := .d (.fl (.int .i64 (k : Int)))) rfl (og rfl (op_move rfl rfl rfl)) ?_
    refine rg_put (d := 6) (v := .d (.fl (.int .i64 (k : Int)))) rfl (og rfl (op_assign rfl rfl rfl)) ?_
    refine rg_done rfl ?_
    refine a_rseq ?_
    refine rg_put (d := 10) (v := .d (.fl (.int .i64 (k : Int)))) rfl (og rfl (op_move rfl rfl rfl)) ?_
    have hk8 : k < 8 := by omega
    refine rg_put (d := 11) (v := .d (.fl (.int .u64 a))) rfl (og rfl (op_move rfl rfl rfl)) ?_
    refine rg_put (d := 12) (v := .d (.fl (.int .i64 (k : Int)))) rfl (og rfl (op_move rfl rfl rfl)) ?_
    refine rg_put (d := 13) (v := .d (.fl (.int .i64 ((8 * (k : Int)))))) rfl (og rfl (op_bin rfl rfl rfl (fun x y w => b_mul64 _ _ _ x y w (by first | omega | (simp only [List.length_set]; omega))) rfl)) ?_
    refine rg_put (d := 14) (v := .d (.fl (.int .i64 ((56 - (8 * (k : Int))))))) rfl (og rfl (op_bin rfl rfl rfl (fun x y w => b_sub64 _ _ _ x y w (by first | omega | (simp only [List.length_set]; omega))) rfl)) ?_
    refine rg_put (d := 15) (v := .d (.fl (.int .u64 ((a / 2 ^ min (((56 - (8 * (k : Int))) : Int)).toNat IntKind.u64.bits))))) rfl (og rfl (op_bin rfl rfl rfl (fun x y w => b_shr _ _ _ _ _ x y w (by first | omega | (simp only [List.length_set]; omega))) rfl)) ?_
    refine rg_put (d := 16) (v := .d (.fl (.int .u8 ((IntKind.u8.wrap ((a / 2 ^ min (((56 - (8 * (k : Int))) : Int)).toNat IntKind.u64.bits))))))) rfl (og rfl (op_convK rfl Try.underlying38 Try.underlying5 rfl rfl)) ?_
    rw [show (IntKind.u8.wrap ((a / 2 ^ min (((56 - (8 * (k : Int))) : Int)).toNat IntKind.u64.bits))) = (byt a k) from byt_shr a hk8]
    refine rg_put (d := 17) (v := .pt 101 k) rfl (og rfl (op_index_arr (j := k) rfl Try.underlying78 ti5 rfl rfl (by first | omega | (simp only [List.length_set]; omega)) (by first | omega | (simp only [List.length_set]; omega)) rfl)) ?_
    refine rg_sto (nw := [(101, .bx 78 ((List.map (cI .u8) ((jarr a b k).set k (byt a k)))))]) rfl (og rfl (of_eff (op_storeA rfl rfl ti5 rfl rfl rfl (by first | omega | (simp only [List.length_set]; omega))) rfl)) ?_
    refine rg_done rfl ?_
    refine a_region ?_
    refine rg_put (d := 18) (v := .d (.fl (.int .i64 (k : Int)))) rfl (og rfl (op_move rfl rfl rfl)) ?_
    refine rg_put (d := 19) (v := .d (.fl (.int .i64 ((8 + (k : Int)))))) rfl (og rfl (op_bin rfl rfl rfl (fun x y w => b_add64 _ _ _ x y w (by first | omega | (simp only [List.length_set]; omega))) rfl)) ?_
    refine rg_put (d := 20) (v := .d (.fl (.int .u64 b))) rfl (og rfl (op_move rfl rfl rfl)) ?_
    refine rg_put (d := 21) (v := .d (.fl (.int .i64 (k : Int)))) rfl (og rfl (op_move rfl rfl rfl)) ?_
    refine rg_put (d := 22) (v := .d (.fl (.int .i64 ((8 * (k : Int)))))) rfl (og rfl (op_bin rfl rfl rfl (fun x y w => b_mul64 _ _ _ x y w (by first | omega | (simp only [List.length_set]; omega))) rfl)) ?_
    refine rg_put (d := 23) (v := .d (.fl (.int .i64 ((56 - (8 * (k : Int))))))) rfl (og rfl (op_bin rfl rfl rfl (fun x y w => b_sub64 _ _ _ x y w (by first | omega | (simp only [List.length_set]; omega))) rfl)) ?_
    refine rg_put (d := 24) (v := .d (.fl (.int .u64 ((b / 2 ^ min (((56 - (8 * (k : Int))) : Int)).toNat IntKind.u64.bits))))) rfl (og rfl (op_bin rfl rfl rfl (fun x y w => b_shr _ _ _ _ _ x y w (by first | omega | (simp only [List.length_set]; omega))) rfl)) ?_
    refine rg_put (d := 25) (v := .d (.fl (.int .u8 ((IntKind.u8.wrap ((b / 2 ^ min (((56 - (8 * (k : Int))) : Int)).toNat IntKind.u64.bits))))))) rfl (og rfl (op_convK rfl Try.underlying38 Try.underlying5 rfl rfl)) ?_
    rw [show (IntKind.u8.wrap ((b / 2 ^ min (((56 - (8 * (k : Int))) : Int)).toNat IntKind.u64.bits))) = (byt b k) from byt_shr b hk8]
    refine rg_put (d := 26) (v := .pt 101 (((8 + (k : Int))).toNat)) rfl (og rfl (op_index_arr (j := ((8 + (k : Int))).toNat) rfl Try.underlying78 ti5 rfl rfl (by first | omega | (simp only [List.length_set]; omega)) (by first | omega | (simp only [List.length_set]; omega)) rfl)) ?_
    refine rg_sto (nw := [(101, .bx 78 ((List.map (cI .u8) ((((jarr a b k).set k (byt a k))).set (((8 + (k : Int))).toNat) (byt b k)))))]) rfl (og rfl (of_eff (op_storeA rfl rfl ti5 rfl rfl rfl (by first | omega | (simp only [List.length_set]; omega))) rfl)) ?_
    refine rg_done rfl ?_
    show A _ _ _ _ _ _ _
    refine a_region ?_
    refine rg_put (d := 27) (v := .d (.fl (.int .i64 (((k : Int) + 1))))) rfl (og rfl (op_bin rfl rfl rfl (fun x y w => b_add64 _ _ _ x y w (by first | omega | (simp only [List.length_set]; omega))) rfl)) ?_
    refine rg_put (d := 7) (v := .d (.fl (.int .i64 (((k : Int) + 1))))) rfl (og rfl (op_move rfl rfl rfl)) ?_
    refine rg_done rfl ?_
    show ∃ i, _ ∧ _ ∧ Imp _ _ _ _ _
    refine ⟨k + 1, by omega, by omega, imp_forget rfl ⟨rfl, rfl, rfl, rfl, (by first | rfl | exact ci (by omega) | exact ci (by simp) | exact cd (by simp) | simp), trivial⟩ ⟨(by first | rfl | simp), trivial⟩⟩
  · skip
    have h3 := f_dec h1
    refine a_exit ?_
    show A _ _ _ _ _ _ _
    have hk8 : k = 8 := by omega
    subst hk8
    refine a_imp (imp_freeze 5 101 rfl rfl) ?_
    refine a_rseq ?_
    refine rg_put (d := 28) (v := .d (.sl 1 (List.map (rI .u8) (jarr a b 8)))) rfl (og rfl (op_sliceEl rfl Try.underlying78 ti5 rfl (by first | omega | (simp only [List.length_set]; omega)) (by omega) (by omega) rfl)) ?_
    refine rg_put (d := 29) (v := .d (.fl (.int .u64 ((hsh (jarr a b 8)))))) rfl (og rfl (op_call rfl Try.func29 nm29 rfl (.cons rfl (.d _) .nil) (dig_hash (jarr a b 8) (by first | omega | (simp only [List.length_append, be_len, List.length_nil]; omega))) rfl)) ?_
    refine rg_put (d := 4) (v := .d (.fl (.int .u64 ((hsh (jarr a b 8)))))) rfl (og rfl (op_assign rfl rfl rfl)) ?_
    refine rg_done rfl ?_
    refine a_ret ?_
    show ∃ ds, ResL _ _ _ ds ∧ RV.of ds = _
    refine ⟨[.fl (.int .u64 ((hsh (jarr a b 8))))], (.cons (.tmp rfl (.d _)) .nil), ?_⟩
    rfl
end Go.Proofs.Ytaecdkhpidligaa.Wk
