/- Copies of disputes. Condition: lists of at most two thousand. -/
import Derived.Test.YtocjbombpggmeaaB1
set_option linter.unusedSimpArgs false
set_option linter.unusedVariables false
namespace Go.Proofs.Ytocjbombpggmeaa.Wk
open Go Go.RowKit Go.Proofs.Ytocjbombpggmeaa.Av
def oDp (x : Dp) : List OC := [.dv (.fl (.string x.key)), .dv (.fl (.int .i64 x.time)), .dv (.fl (.int .i64 x.cents)), .dv (.fl (.int .i64 x.state)), .ow 9 1 (List.map rS x.proofs)]
theorem oDp_rd (x : Dp) : (oDp x).map OC.rd = eDp x := rfl
def mix (l : List Dp) (k : Nat) : List (List OC) := (l.take k).map oDp ++ tD eDp (l.drop k)
theorem mix_len {l : List Dp} {k : Nat} : (mix l k).length = l.length := by simp [mix, tD]; omega
theorem mix_zero (l : List Dp) : tD eDp l = mix l 0 := by simp [mix]
theorem mix_all {l : List Dp} {k : Nat} (h : ¬ k < l.length) : mix l k = l.map oDp := by
  unfold mix; rw [List.take_of_length_le (by omega), List.drop_eq_nil_of_le (by omega)]; simp [tD]
theorem mix_at {l : List Dp} {k : Nat} (h : k < l.length) : (mix l k)[k]? = some (List.map OC.dv (eDp (ix l k))) := by
  unfold mix
  rw [List.getElem?_append_right (by simp; omega), drop_ix h]
  simp [show k - min k l.length = 0 by omega, tD]
theorem mix_set {l : List Dp} {k : Nat} (h : k < l.length) : (mix l k).set k (oDp (ix l k)) = mix l (k + 1) := by
  unfold mix
  rw [List.set_append_right _ _ (by simp; omega), drop_ix h, take_ix h]
  simp [show k - min k l.length = 0 by omega, tD]

set_option maxHeartbeats 4000000 in
set_option maxRecDepth 100000 in
theorem clone_str (l : List ByteArray) (hl : l.length * 17 ≤ 140737488355328) : CtrO Try.prog 46 [.sl 1 (List.map rS l)] (.tr 9 1 (tD rS l)) := by
  refine ctrO (n := 8) (rs := #[.tmp 2]) (L := [(0, .d (.sl 1 (List.map rS l)))]) Try.func46 rfl rfl rfl rfl rfl (fun w0 U0 => ?_)
  refine a_rseq ?_
  refine rg_put (d := 2) (v := .d (.fl (.slice none 0 0))) rfl (og rfl (op_assign rfl rfl rfl)) ?_
  refine rg_done rfl ?_
  refine a_seq ?_
  refine a_rseq ?_
  refine rg_put (d := 3) (v := .d (.sl 1 (List.map rS l))) rfl (og rfl (op_move rfl rfl rfl)) ?_
  refine rg_isnil rfl rfl rfl Try.underlying38 rfl rfl rfl (fun bh1 nh1 => ?_)
  refine rg_done rfl ?_
  refine a_cond rfl (fun h2 => ?_) (fun h2 => ?_)
  · skip
    refine a_rseq ?_
    refine rg_put (d := 2) (v := .d (.fl (.slice none 0 0))) rfl (og rfl (op_assign rfl rfl rfl)) ?_
    refine rg_done rfl ?_
    have hnil : l = [] := by simpa using nh1 h2
    subst hnil
    refine a_imp (imp_nilT 2 101 9 1 rfl rfl) ?_
    refine a_ret ?_
    show ∃ rv, _ = #[rv] ∧ ResO _ _ rv _
    exact ⟨_, rfl, .tmp rfl rfl⟩
  · skip
    refine a_skip ?_
    show A _ _ _ _ _ _ _
    refine a_rseq ?_
    refine rg_nam (d := 5) (v := .ow 102) (m := 102) (nw := [(102, .tr 9 1 (tD rS []))]) rfl (og rfl (of_eff (op_slice0 102 rfl Try.underlying38 ti9 rfl) rfl)) rfl ?_
    refine rg_put (d := 6) (v := .d (.sl 1 (List.map rS l))) rfl (og rfl (op_move rfl rfl rfl)) ?_
    refine rg_nam (d := 7) (v := .ow 103) (m := 103) (nw := [(103, .tr 9 1 (tD rS ([] ++ l))), (102, .no)]) rfl (og rfl (of_eff (s_append_td 103 rfl Try.underlying38 ti9 rfl rfl rfl rfl rfl (.d _) (by simp only [List.length_nil]; omega) rfl) rfl)) rfl ?_
    refine rg_put (d := 2) (v := .ow 103) rfl (og rfl (op_assign rfl rfl rfl)) ?_
    refine rg_done rfl ?_
    refine a_ret ?_
    show ∃ rv, _ = #[rv] ∧ ResO _ _ rv _
    exact ⟨_, rfl, .tmp rfl rfl⟩
set_option maxHeartbeats 4000000 in
set_option maxRecDepth 100000 in
theorem clone_dp (l : List Dp) (hl : l.length * 65 ≤ 140737488355328) : CtrO Try.prog 45 [.sl 5 (List.map eDp l)] (.tr 40 5 (tD eDp l)) := by
  refine ctrO (n := 8) (rs := #[.tmp 2]) (L := [(0, .d (.sl 5 (List.map eDp l)))]) Try.func45 rfl rfl rfl rfl rfl (fun w0 U0 => ?_)
  refine a_rseq ?_
  refine rg_put (d := 2) (v := .d (.fl (.slice none 0 0))) rfl (og rfl (op_assign rfl rfl rfl)) ?_
  refine rg_done rfl ?_
  refine a_seq ?_
  refine a_rseq ?_
  refine rg_put (d := 3) (v := .d (.sl 5 (List.map eDp l))) rfl (og rfl (op_move rfl rfl rfl)) ?_
  refine rg_isnil rfl rfl rfl Try.underlying22 rfl rfl rfl (fun bh1 nh1 => ?_)
  refine rg_done rfl ?_
  refine a_cond rfl (fun h2 => ?_) (fun h2 => ?_)
  · skip
    refine a_rseq ?_
    refine rg_put (d := 2) (v := .d (.fl (.slice none 0 0))) rfl (og rfl (op_assign rfl rfl rfl)) ?_
    refine rg_done rfl ?_
    have hnil : l = [] := by simpa using nh1 h2
    subst hnil
    refine a_imp (imp_nilT 2 101 40 5 rfl rfl) ?_
    refine a_ret ?_
    show ∃ rv, _ = #[rv] ∧ ResO _ _ rv _
    exact ⟨_, rfl, .tmp rfl rfl⟩
  · skip
    refine a_skip ?_
    show A _ _ _ _ _ _ _
    refine a_rseq ?_
    refine rg_nam (d := 5) (v := .ow 102) (m := 102) (nw := [(102, .tr 40 5 (tD eDp []))]) rfl (og rfl (of_eff (op_slice0 102 rfl Try.underlying22 ti40 rfl) rfl)) rfl ?_
    refine rg_put (d := 6) (v := .d (.sl 5 (List.map eDp l))) rfl (og rfl (op_move rfl rfl rfl)) ?_
    refine rg_nam (d := 7) (v := .ow 103) (m := 103) (nw := [(103, .tr 40 5 (tD eDp ([] ++ l))), (102, .no)]) rfl (og rfl (of_eff (s_append_td 103 rfl Try.underlying22 ti40 rfl rfl rfl rfl rfl (.d _) (by simp only [List.length_nil]; omega) rfl) rfl)) rfl ?_
    refine rg_put (d := 2) (v := .ow 103) rfl (og rfl (op_assign rfl rfl rfl)) ?_
    refine rg_done rfl ?_
    refine a_ret ?_
    show ∃ rv, _ = #[rv] ∧ ResO _ _ rv _
    exact ⟨_, rfl, .tmp rfl rfl⟩
set_option maxHeartbeats 4000000 in
set_option maxRecDepth 100000 in
theorem fresh_dp (l : List Dp) (hl : l.length ≤ 2000) (hb : ∀ q, q < l.length → (ix l q).proofs.length ≤ 2000) : CtrO Try.prog 34 [.sl 5 (List.map eDp l)] (.tr 40 5 (l.map oDp)) := by
  refine ctrO (n := 24) (rs := #[.tmp 2]) (L := [(0, .d (.sl 5 (List.map eDp l)))]) Try.func34 rfl rfl rfl rfl rfl (fun w0 U0 => ?_)
  refine a_rseq ?_
  refine rg_put (d := 2) (v := .d (.fl (.slice none 0 0))) rfl (og rfl (op_assign rfl rfl rfl)) ?_
  refine rg_done rfl ?_
  refine a_rseq ?_
  refine rg_put (d := 5) (v := .d (.sl 5 (List.map eDp l))) rfl (og rfl (op_move rfl rfl rfl)) ?_
  refine rg_nam (d := 6) (v := .ow 101) (m := 101) (nw := [(101, .tr 40 5 (tD eDp l))]) rfl (og rfl (of_eff (op_callO 101 rfl Try.func45 nm45 rfl (.cons rfl (.d _) .nil) (clone_dp l (by omega)) rfl) rfl)) rfl ?_
  refine rg_put (d := 3) (v := .ow 101) rfl (og rfl (op_assign rfl rfl rfl)) ?_
  refine rg_done rfl ?_
  refine a_seq ?_
  refine a_rseq ?_
  refine rg_put (d := 7) (v := .ow 101) rfl (og rfl (op_move rfl rfl rfl)) ?_
  refine rg_put (d := 8) (v := .d (.fl (.int .i64 (((l).length : Int))))) rfl (og rfl (op_len_tr rfl Try.underlying22 rfl rfl tD_len rfl)) ?_
  refine rg_put (d := 9) (v := .d (.fl (.int .i64 0))) rfl (og rfl (op_move rfl rfl rfl)) ?_
  refine rg_done rfl ?_
  refine a_block ?_
  refine a_loop (ι := Nat) (fun k => SS [(0, .d (.sl 5 (List.map eDp l))), (2, .d (.fl (.slice none 0 0))), (3, .ow 101), (8, .d (.fl (.int .i64 (((l).length : Int))))), (9, .d (.fl (.int .i64 (k : Int))))] [(101, .tr 40 5 (mix l k))]) (fun k => k ≤ l.length) (fun k => l.length - k) 0 (by omega) (imp_forget rfl ⟨rfl, rfl, rfl, rfl, (by first | rfl | exact ci (by omega) | exact ci (by simp) | exact cd (by simp) | simp), trivial⟩ ⟨(congrArg (Ob.tr 40 5) (mix_zero l)), trivial⟩) (fun k hok => ?_)
  have hk := hok
  refine a_rseq ?_
  refine rg_put (d := 10) (v := .d (.fl (.bool ((decide ((k : Int) < ((l).length : Int))))))) rfl (og rfl (op_bin rfl rfl rfl (b_lss _ _ _ _) rfl)) ?_
  refine rg_done rfl ?_
  refine a_seq ?_
  refine a_cond rfl (fun h1 => ?_) (fun h1 => ?_)
  · skip
    have h2 := t_dec h1
    refine a_skip ?_
    show A _ _ _ _ _ _ _
    refine a_seq ?_
    refine a_block ?_
    refine a_rseq ?_
    refine rg_put (d := 11) (v := .d (.fl (.int .i64 (k : Int)))) rfl (og rfl (op_move rfl rfl rfl)) ?_
    refine rg_put (d := 4) (v := .d (.fl (.int .i64 (k : Int)))) rfl (og rfl (op_assign rfl rfl rfl)) ?_
    refine rg_done rfl ?_
    refine a_region ?_
    refine rg_put (d := 12) (v := .ow 101) rfl (og rfl (op_move rfl rfl rfl)) ?_
    refine rg_put (d := 13) (v := .d (.fl (.int .i64 (k : Int)))) rfl (og rfl (op_move rfl rfl rfl)) ?_
    refine rg_put (d := 14) (v := .ow 101) rfl (og rfl (op_move rfl rfl rfl)) ?_
    refine rg_put (d := 15) (v := .d (.fl (.int .i64 (k : Int)))) rfl (og rfl (op_move rfl rfl rfl)) ?_
    refine rg_put (d := 16) (v := .pe 101 5 k 0) rfl (og rfl (op_index_tr rfl Try.underlying22 ti40 rfl rfl rfl (get_lt (mix_at (by omega))) rfl)) ?_
    refine rg_put (d := 17) (v := .pe 101 5 k 4) rfl (og rfl (of_eff (op_field_pe rfl Try.underlying40 rfl ti38 rfl rfl rfl) rfl)) ?_
    refine rg_put (d := 18) (v := .d (.sl 1 (List.map rS ((ix l k).proofs)))) rfl (og rfl (of_eff (op_load_pe rfl Try.underlying38 rfl rfl rfl (mix_at (by omega)) rfl rfl) rfl)) ?_
    refine rg_nam (d := 19) (v := .ow 102) (m := 102) (nw := [(102, .tr 9 1 (tD rS ((ix l k).proofs)))]) rfl (og rfl (of_eff (op_callO 102 rfl Try.func46 nm46 rfl (.cons rfl (.d _) .nil) (clone_str ((ix l k).proofs) (by have := hb k (by omega); omega)) rfl) rfl)) rfl ?_
    refine rg_put (d := 20) (v := .pe 101 5 k 0) rfl (og rfl (op_index_tr rfl Try.underlying22 ti40 rfl rfl rfl (get_lt (mix_at (by omega))) rfl)) ?_
    refine rg_put (d := 21) (v := .pe 101 5 k 4) rfl (og rfl (of_eff (op_field_pe rfl Try.underlying40 rfl ti38 rfl rfl rfl) rfl)) ?_
    refine rg_sto (nw := [(101, .tr 40 5 (((mix l k).set k [.dv (.fl (.string ((ix l k).key))), .dv (.fl (.int .i64 ((ix l k).time))), .dv (.fl (.int .i64 ((ix l k).cents))), .dv (.fl (.int .i64 ((ix l k).state))), .ow 9 1 (List.map rS ((ix l k).proofs))]))), (102, .no)]) rfl (og rfl (of_eff (op_store_pe rfl rfl ti38 rfl rfl (mix_at (by omega)) rfl (.tr rfl) rfl rfl rfl) rfl)) ?_
    refine rg_done rfl ?_
    show A _ _ _ _ _ _ _
    refine a_region ?_
    refine rg_put (d := 22) (v := .d (.fl (.int .i64 (((k : Int) + 1))))) rfl (og rfl (op_bin rfl rfl rfl (fun x y w => b_add64 _ _ _ x y w (by omega)) rfl)) ?_
    refine rg_put (d := 9) (v := .d (.fl (.int .i64 (((k : Int) + 1))))) rfl (og rfl (op_move rfl rfl rfl)) ?_
    refine rg_done rfl ?_
    show ∃ i, _ ∧ _ ∧ Imp _ _ _ _ _
    refine ⟨k + 1, (by omega), by omega, imp_forget rfl ⟨rfl, rfl, rfl, rfl, (by first | rfl | exact ci (by omega) | exact ci (by simp) | exact cd (by simp) | simp), trivial⟩ ⟨(congrArg (Ob.tr 40 5) (mix_set (by omega))), trivial⟩⟩
  · skip
    have h3 := f_dec h1
    refine a_exit ?_
    show A _ _ _ _ _ _ _
    refine a_rseq ?_
    refine rg_put (d := 23) (v := .ow 101) rfl (og rfl (op_move rfl rfl rfl)) ?_
    refine rg_put (d := 2) (v := .ow 101) rfl (og rfl (op_assign rfl rfl rfl)) ?_
    refine rg_done rfl ?_
    refine a_ret ?_
    show ∃ rv, _ = #[rv] ∧ ResO _ _ rv _
    rw [← mix_all (l := l) (k := k) (by omega)]
    exact ⟨_, rfl, .tmp rfl rfl⟩
end Go.Proofs.Ytocjbombpggmeaa.Wk
