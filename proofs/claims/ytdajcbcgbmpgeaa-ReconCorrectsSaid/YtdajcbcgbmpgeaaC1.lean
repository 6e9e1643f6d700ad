/- The records of differences, both sides; the law. Conditions: as each theorem names them. -/
import Derived.Test.YtdajcbcgbmpgeaaAl
set_option linter.unusedSimpArgs false
set_option linter.unusedVariables false
namespace Go.Proofs.Ytdajcbcgbmpgeaa.Wk
open Go Go.RowKit Go.Proofs.Ytdajcbcgbmpgeaa.Av
theorem ne_self_b (a : Int) : (a != a) = false := by simp
theorem sEq_eq {a b : ByteArray} (h : sEq a b = true) : a = b := of_decide_eq_true h
theorem sEq_of {a b : ByteArray} (h : a = b) : sEq a b = true := decide_eq_true h
theorem nb {b : Bool} (h : ¬ b = true) : b = false := by cases b <;> simp at h ⊢
theorem nnb {b : Bool} (h : ¬ (!b) = true) : b = true := by cases b <;> simp at h ⊢

def one (d : Df) : List Rco := if (d.ours != 0) = true then [⟨3, d.key, 0, 0, 0⟩, ⟨1, d.key, 0, d.ours, 0⟩] else [⟨3, d.key, 0, 0, 0⟩]
def rec (l : List Df) (k : Nat) : List Rco := (l.take k).flatMap one
theorem rec_s {l : List Df} {k : Nat} (h : k < l.length) : rec l (k + 1) = rec l k ++ one (ix l k) := by
  unfold rec
  rw [take_ix h, List.flatMap_append]
  simp
theorem rec_yes {l : List Df} {k : Nat} (h : k < l.length) (hb : ((ix l k).ours != 0) = true) : ((rec l k ++ [Rco.mk 3 (ix l k).key 0 0 0]) ++ [Rco.mk 1 (ix l k).key 0 (ix l k).ours 0]) = rec l (k + 1) := by rw [rec_s h, one, if_pos hb]; simp
theorem rec_no {l : List Df} {k : Nat} (h : k < l.length) (hb : ((ix l k).ours != 0) = false) : (rec l k ++ [Rco.mk 3 (ix l k).key 0 0 0]) = rec l (k + 1) := by rw [rec_s h, one, if_neg (by rw [hb]; decide)]
theorem rec_len (l : List Df) : ∀ k, (rec l k).length ≤ 2 * k
  | 0 => by simp [rec]
  | k + 1 => by
    by_cases h : k < l.length
    · rw [rec_s h, List.length_append]
      have := rec_len l k
      have : (one (ix l k)).length ≤ 2 := by unfold one; split <;> simp
      omega
    · have e : rec l (k + 1) = rec l k := by unfold rec; rw [List.take_of_length_le (by omega), List.take_of_length_le (by omega)]
      rw [e]; have := rec_len l k; omega
def recs (l : List Df) : List Rco := rec l l.length
theorem recs_len (l : List Df) : (recs l).length ≤ 2 * l.length := rec_len l _

theorem eqI29 (a : Rco) (w : World) : (Op.equalIn 10000 29 (.agg (([.int .i64 a.kind, .string a.key, .int .i64 a.time, .int .i64 a.cents, .int .i64 a.why] : List Value).toArray)) (.agg (([.int .i64 a.kind, .string a.key, .int .i64 a.time, .int .i64 a.cents, .int .i64 a.why] : List Value).toArray))).run Try.prog w = .ok true w := by
  have hS : Try.prog.underlying 29 = some (.struct (Try.prog.fieldsOf 29)) := by kernel_rfl
  have hp : Try.prog.stoodInHeld 29 = false := by kernel_rfl
  rw [show (10000 : Nat) = 9999 + 1 from rfl, run_equalIn_agg w 9999 29 _ _ hS hp]
  simp only [Program.fieldsOf, Try.underlying29]
  go_simp

theorem eql29 (a : Rco) (x y : Operand) (w : World) : (do eqGuard .eql 29 x y (.agg (([.int .i64 a.kind, .string a.key, .int .i64 a.time, .int .i64 a.cents, .int .i64 a.why] : List Value).toArray)) (.agg (([.int .i64 a.kind, .string a.key, .int .i64 a.time, .int .i64 a.cents, .int .i64 a.why] : List Value).toArray)); binOp .eql 29 (.agg (([.int .i64 a.kind, .string a.key, .int .i64 a.time, .int .i64 a.cents, .int .i64 a.why] : List Value).toArray)) (.agg (([.int .i64 a.kind, .string a.key, .int .i64 a.time, .int .i64 a.cents, .int .i64 a.why] : List Value).toArray)) : Sem Value).run Try.prog w = .ok (.bool true) w := by
  have hm : Try.prog.eqGuardType Try.prog.depth 29 = false := by kernel_rfl
  rw [Sem.run_bind, run_eqGuard_agg w .eql 29 x y _ _ hm, Result.andThen_ok, run_eql_struct, eqI29]
  rfl

theorem neq29 (a : Rco) (x y : Operand) (w : World) : (do eqGuard .neq 29 x y (.agg (([.int .i64 a.kind, .string a.key, .int .i64 a.time, .int .i64 a.cents, .int .i64 a.why] : List Value).toArray)) (.agg (([.int .i64 a.kind, .string a.key, .int .i64 a.time, .int .i64 a.cents, .int .i64 a.why] : List Value).toArray)); binOp .neq 29 (.agg (([.int .i64 a.kind, .string a.key, .int .i64 a.time, .int .i64 a.cents, .int .i64 a.why] : List Value).toArray)) (.agg (([.int .i64 a.kind, .string a.key, .int .i64 a.time, .int .i64 a.cents, .int .i64 a.why] : List Value).toArray)) : Sem Value).run Try.prog w = .ok (.bool false) w := by
  have hm : Try.prog.eqGuardType Try.prog.depth 29 = false := by kernel_rfl
  rw [Sem.run_bind, run_eqGuard_agg w .neq 29 x y _ _ hm, Result.andThen_ok, run_neq_struct, eqI29]
  rfl

set_option maxHeartbeats 4000000 in
set_option maxRecDepth 100000 in
theorem cor6 (l : List Df) (hl : l.length ≤ 100) : Ctr Try.prog 6 [.sl 3 (List.map eDf l)] (.d (.sl 5 (List.map eRco (recs l)))) := by
  refine ctr (n := 31) (rs := #[.tmp 2]) (L := [(0, .d (.sl 3 (List.map eDf l)))]) Try.func6 rfl rfl rfl rfl rfl (fun w0 U0 => ?_)
  refine a_rseq ?_
  refine rg_put (d := 2) (v := .d (.fl (.slice none 0 0))) rfl (og rfl (op_assign rfl rfl rfl)) ?_
  refine rg_done rfl ?_
  refine a_rseq ?_
  refine rg_put (d := 3) (v := .d (.fl (.slice none 0 0))) rfl (og rfl (op_assign rfl rfl rfl)) ?_
  refine rg_done rfl ?_
  refine a_seq ?_
  refine a_rseq ?_
  refine rg_put (d := 6) (v := .d (.sl 3 (List.map eDf l))) rfl (og rfl (op_move rfl rfl rfl)) ?_
  refine rg_put (d := 7) (v := .d (.fl (.int .i64 (l.length : Int)))) rfl (og rfl (s_len rfl Try.underlying22 rfl rfl)) ?_
  refine rg_put (d := 8) (v := .d (.fl (.int .i64 0))) rfl (og rfl (op_move rfl rfl rfl)) ?_
  refine rg_done rfl ?_
  refine a_block ?_
  refine a_loop (ι := Nat) (fun k => SS [(0, .d (.sl 3 (List.map eDf l))), (2, .d (.fl (.slice none 0 0))), (6, .d (.sl 3 (List.map eDf l))), (7, .d (.fl (.int .i64 (l.length : Int)))), (8, .d (.fl (.int .i64 (k : Int)))), (3, .ow 700)] [(700, .tr 29 5 (tD eRco (rec l k)))]) (fun k => k ≤ l.length) (fun k => l.length - k) 0 (by omega) (Imp.trans (imp_nilT 3 700 29 5 rfl rfl) (imp_forget rfl ⟨rfl, rfl, rfl, rfl, (by first | rfl | exact ci (by omega) | exact ci (by simp) | exact cd (by simp) | simp), (by first | rfl | exact ci (by omega) | exact ci (by simp) | exact cd (by simp) | simp), trivial⟩ ⟨(by first | rfl | simp), trivial⟩)) (fun k hok => ?_)
  have hk := hok
  refine a_rseq ?_
  refine rg_put (d := 9) (v := .d (.fl (.bool ((decide ((k : Int) < (l.length : Int))))))) rfl (og rfl (op_bin rfl rfl rfl (b_lss _ _ _ _) rfl)) ?_
  refine rg_done rfl ?_
  refine a_seq ?_
  refine a_cond rfl (fun h1 => ?_) (fun h1 => ?_)
  · skip
    have h2 := t_dec h1
    refine a_skip ?_
    show A _ _ _ _ _ _ _
    refine a_seq ?_
    refine a_block ?_
    refine a_rseq ?_
    refine rg_put (d := 10) (v := .el ((eDf (ix l k)))) rfl (og rfl (s_index rfl Try.underlying22 ti36 rfl rfl (by omega) (row_at (by omega)) rfl)) ?_
    refine rg_put (d := 11) (v := .d (.ag (eDf (ix l k)))) rfl (og rfl (of_eff (s_load_els rfl Try.underlying36 rfl ti36 rfl rfl rfl) rfl)) ?_
    refine rg_nam (d := 5) (v := .pt 101 0) (m := 101) (nw := [(101, .bx 36 ([.fl (.string (⟨#[]⟩)), .fl (.int .i64 0), .fl (.int .i64 0)]))]) rfl (og rfl (of_eff (s_alloc 101 rfl ti36 (by kernel_rfl) rfl) rfl)) rfl ?_
    refine rg_sto (nw := [(101, .bx 36 ((eDf (ix l k))))]) rfl (og rfl (of_eff (s_store rfl rfl ti36 rfl rfl rfl rfl rfl rfl) rfl)) ?_
    refine rg_done rfl ?_
    refine a_rseq ?_
    refine rg_put (d := 12) (v := .ow 700) rfl (og rfl (op_move rfl rfl rfl)) ?_
    refine rg_put (d := 13) (v := .pt 101 0) rfl (og rfl (of_eff (s_field_pt rfl Try.underlying36 rfl ti9 rfl rfl rfl) rfl)) ?_
    refine rg_put (d := 14) (v := .d (.fl (.string ((ix l k).key)))) rfl (og rfl (op_load_pt rfl Try.underlying9 rfl rfl rfl rfl rfl)) ?_
    refine rg_put (d := 15) (v := .d (.ag (eRco ((Rco.mk 3 ((ix l k).key) 0 0 0))))) rfl (og rfl (of_eff (op_build rfl Try.underlying29 ti29 rfl (by kernel_rfl) (by kernel_rfl) (pl := #[(0, 1), (1, 1), (2, 1), (3, 1), (4, 1)]) (by kernel_rfl) (.cons rfl rfl (.d _) rfl rfl rfl (.cons rfl rfl (.d _) rfl rfl rfl .nil)) rfl) rfl)) ?_
    refine rg_put (d := 16) (v := .d (.sl 5 (List.map eRco [(Rco.mk 3 ((ix l k).key) 0 0 0)]))) rfl (og rfl (of_eff (op_slices rfl Try.underlying25 ti29 rfl rfl rfl (by kernel_rfl) (xs := [.ag (eRco ((Rco.mk 3 ((ix l k).key) 0 0 0)))]) rfl rfl (.cons rfl rfl (.d _) rfl rfl rfl .nil) rfl) rfl)) ?_
    refine rg_nam (d := 17) (v := .ow 102) (m := 102) (nw := [(102, .tr 29 5 (tD eRco (((rec l k) ++ [(Rco.mk 3 ((ix l k).key) 0 0 0)])))), (700, .no)]) rfl (og rfl (of_eff (s_append_td 102 rfl Try.underlying25 ti29 rfl rfl rfl rfl rfl (.d _) (by simp only [List.length_append, List.length_cons, List.length_nil]; have := rec_len l k; omega) rfl) rfl)) rfl ?_
    refine rg_put (d := 3) (v := .ow 102) rfl (og rfl (op_assign rfl rfl rfl)) ?_
    refine rg_done rfl ?_
    refine a_rseq ?_
    refine rg_put (d := 18) (v := .pt 101 1) rfl (og rfl (of_eff (s_field_pt rfl Try.underlying36 rfl ti3 rfl rfl rfl) rfl)) ?_
    refine rg_put (d := 19) (v := .d (.fl (.int .i64 ((ix l k).ours)))) rfl (og rfl (op_load_pt rfl Try.underlying3 rfl rfl rfl rfl rfl)) ?_
    refine rg_put (d := 20) (v := .d (.fl (.bool (((ix l k).ours != 0))))) rfl (og rfl (op_bin rfl rfl rfl (b_neq _ _ _ _) rfl)) ?_
    refine rg_done rfl ?_
    refine a_cond rfl (fun h3 => ?_) (fun h3 => ?_)
    · skip
      have h4 := t_bne h3
      refine a_region ?_
      refine rg_put (d := 21) (v := .ow 102) rfl (og rfl (op_move rfl rfl rfl)) ?_
      refine rg_put (d := 22) (v := .pt 101 0) rfl (og rfl (of_eff (s_field_pt rfl Try.underlying36 rfl ti9 rfl rfl rfl) rfl)) ?_
      refine rg_put (d := 23) (v := .d (.fl (.string ((ix l k).key)))) rfl (og rfl (op_load_pt rfl Try.underlying9 rfl rfl rfl rfl rfl)) ?_
      refine rg_put (d := 24) (v := .pt 101 1) rfl (og rfl (of_eff (s_field_pt rfl Try.underlying36 rfl ti3 rfl rfl rfl) rfl)) ?_
      refine rg_put (d := 25) (v := .d (.fl (.int .i64 ((ix l k).ours)))) rfl (og rfl (op_load_pt rfl Try.underlying3 rfl rfl rfl rfl rfl)) ?_
      refine rg_put (d := 26) (v := .d (.ag (eRco ((Rco.mk 1 ((ix l k).key) 0 ((ix l k).ours) 0))))) rfl (og rfl (of_eff (op_build rfl Try.underlying29 ti29 rfl (by kernel_rfl) (by kernel_rfl) (pl := #[(0, 1), (1, 1), (2, 1), (3, 1), (4, 1)]) (by kernel_rfl) (.cons rfl rfl (.d _) rfl rfl rfl (.cons rfl rfl (.d _) rfl rfl rfl (.cons rfl rfl (.d _) rfl rfl rfl .nil))) rfl) rfl)) ?_
      refine rg_put (d := 27) (v := .d (.sl 5 (List.map eRco [(Rco.mk 1 ((ix l k).key) 0 ((ix l k).ours) 0)]))) rfl (og rfl (of_eff (op_slices rfl Try.underlying25 ti29 rfl rfl rfl (by kernel_rfl) (xs := [.ag (eRco ((Rco.mk 1 ((ix l k).key) 0 ((ix l k).ours) 0)))]) rfl rfl (.cons rfl rfl (.d _) rfl rfl rfl .nil) rfl) rfl)) ?_
      refine rg_nam (d := 28) (v := .ow 103) (m := 103) (nw := [(103, .tr 29 5 (tD eRco ((((rec l k) ++ [(Rco.mk 3 ((ix l k).key) 0 0 0)]) ++ [(Rco.mk 1 ((ix l k).key) 0 ((ix l k).ours) 0)])))), (102, .no)]) rfl (og rfl (of_eff (s_append_td 103 rfl Try.underlying25 ti29 rfl rfl rfl rfl rfl (.d _) (by simp only [List.length_append, List.length_cons, List.length_nil]; have := rec_len l k; omega) rfl) rfl)) rfl ?_
      refine rg_put (d := 3) (v := .ow 103) rfl (og rfl (op_assign rfl rfl rfl)) ?_
      refine rg_done rfl ?_
      show A _ _ _ _ _ _ _
      refine a_region ?_
      refine rg_put (d := 29) (v := .d (.fl (.int .i64 (((k : Int) + 1))))) rfl (og rfl (op_bin rfl rfl rfl (fun x y w => b_add64 _ _ _ x y w (by omega)) rfl)) ?_
      refine rg_put (d := 8) (v := .d (.fl (.int .i64 (((k : Int) + 1))))) rfl (og rfl (op_move rfl rfl rfl)) ?_
      refine rg_done rfl ?_
      show ∃ i, _ ∧ _ ∧ Imp _ _ _ _ _
      refine ⟨k + 1, by omega, by omega, imp_ren (fun m => bif Nat.beq m 700 then 103 else m) rfl ⟨rfl, rfl, rfl, rfl, (by first | rfl | exact ci (by omega) | exact ci (by simp) | exact cd (by simp) | simp), rfl, trivial⟩ ⟨(congrArg (fun z => Ob.tr 29 5 (tD eRco z)) (rec_yes (by omega) h3)), trivial⟩⟩
    · skip
      have h5 := f_bne h3
      refine a_skip ?_
      show A _ _ _ _ _ _ _
      refine a_region ?_
      refine rg_put (d := 29) (v := .d (.fl (.int .i64 (((k : Int) + 1))))) rfl (og rfl (op_bin rfl rfl rfl (fun x y w => b_add64 _ _ _ x y w (by omega)) rfl)) ?_
      refine rg_put (d := 8) (v := .d (.fl (.int .i64 (((k : Int) + 1))))) rfl (og rfl (op_move rfl rfl rfl)) ?_
      refine rg_done rfl ?_
      show ∃ i, _ ∧ _ ∧ Imp _ _ _ _ _
      refine ⟨k + 1, by omega, by omega, imp_ren (fun m => bif Nat.beq m 700 then 102 else m) rfl ⟨rfl, rfl, rfl, rfl, (by first | rfl | exact ci (by omega) | exact ci (by simp) | exact cd (by simp) | simp), rfl, trivial⟩ ⟨(congrArg (fun z => Ob.tr 29 5 (tD eRco z)) (rec_no (by omega) h3)), trivial⟩⟩
  · skip
    have h6 := f_dec h1
    refine a_exit ?_
    show A _ _ _ _ _ _ _
    refine a_rseq ?_
    refine rg_put (d := 30) (v := .ow 700) rfl (og rfl (op_move rfl rfl rfl)) ?_
    refine rg_put (d := 2) (v := .ow 700) rfl (og rfl (op_assign rfl rfl rfl)) ?_
    refine rg_done rfl ?_
    refine a_imp (imp_leakT 2 700 rfl rfl) ?_
    refine a_ret ?_
    show ∃ ds, ResL _ _ _ ds ∧ RV.of ds = _
    refine ⟨[.sl 5 (List.map eRco (rec l k))], (.cons (.tmp rfl (.d _)) .nil), ?_⟩
    have hkl : k = l.length := by omega
    subst hkl
    rfl
set_option maxHeartbeats 4000000 in
set_option maxRecDepth 100000 in
theorem cor7 (l : List Df) (hl : l.length ≤ 100) : Ctr Try.prog 7 [.sl 3 (List.map eDf l)] (.d (.sl 5 (List.map eRco (recs l)))) := by
  refine ctr (n := 42) (rs := #[.tmp 2]) (L := [(0, .d (.sl 3 (List.map eDf l)))]) Try.func7 rfl rfl rfl rfl rfl (fun w0 U0 => ?_)
  refine a_rseq ?_
  refine rg_put (d := 2) (v := .d (.fl (.slice none 0 0))) rfl (og rfl (op_assign rfl rfl rfl)) ?_
  refine rg_done rfl ?_
  refine a_rseq ?_
  refine rg_nam (d := 5) (v := .ow 101) (m := 101) (nw := [(101, .tr 29 5 (tD eRco []))]) rfl (og rfl (of_eff (op_slice0 101 rfl Try.underlying25 ti29 rfl) rfl)) rfl ?_
  refine rg_put (d := 3) (v := .ow 101) rfl (og rfl (op_assign rfl rfl rfl)) ?_
  refine rg_done rfl ?_
  refine a_seq ?_
  refine a_rseq ?_
  refine rg_put (d := 4) (v := .d (.fl (.int .i64 0))) rfl (og rfl (op_assign rfl rfl rfl)) ?_
  refine rg_done rfl ?_
  refine a_block ?_
  refine a_loop (ι := Nat) (fun k => SS [(0, .d (.sl 3 (List.map eDf l))), (2, .d (.fl (.slice none 0 0))), (4, .d (.fl (.int .i64 (k : Int)))), (3, .ow 101)] [(101, .tr 29 5 (tD eRco (rec l k)))]) (fun k => k ≤ l.length) (fun k => l.length - k) 0 (by omega) (imp_forget rfl ⟨rfl, rfl, (by first | rfl | exact ci (by omega) | exact ci (by simp) | exact cd (by simp) | simp), (by first | rfl | exact ci (by omega) | exact ci (by simp) | exact cd (by simp) | simp), trivial⟩ ⟨(by first | rfl | simp), trivial⟩) (fun k hok => ?_)
  have hk := hok
  refine a_seq ?_
  refine a_rseq ?_
  refine rg_put (d := 6) (v := .d (.fl (.int .i64 (k : Int)))) rfl (og rfl (op_move rfl rfl rfl)) ?_
  refine rg_put (d := 7) (v := .d (.sl 3 (List.map eDf l))) rfl (og rfl (op_move rfl rfl rfl)) ?_
  refine rg_put (d := 8) (v := .d (.fl (.int .i64 (l.length : Int)))) rfl (og rfl (s_len rfl Try.underlying22 rfl rfl)) ?_
  refine rg_put (d := 9) (v := .d (.fl (.bool ((decide ((k : Int) < (l.length : Int))))))) rfl (og rfl (op_bin rfl rfl rfl (b_lss _ _ _ _) rfl)) ?_
  refine rg_done rfl ?_
  refine a_cond rfl (fun h1 => ?_) (fun h1 => ?_)
  · skip
    have h2 := t_dec h1
    refine a_skip ?_
    show A _ _ _ _ _ _ _
    refine a_seq ?_
    refine a_block ?_
    refine a_rseq ?_
    refine rg_put (d := 12) (v := .ow 101) rfl (og rfl (op_move rfl rfl rfl)) ?_
    refine rg_put (d := 13) (v := .d (.sl 3 (List.map eDf l))) rfl (og rfl (op_move rfl rfl rfl)) ?_
    refine rg_put (d := 14) (v := .d (.fl (.int .i64 (k : Int)))) rfl (og rfl (op_move rfl rfl rfl)) ?_
    refine rg_put (d := 15) (v := .el ((eDf (ix l k)))) rfl (og rfl (s_index rfl Try.underlying22 ti36 rfl rfl (by omega) (row_at (by omega)) rfl)) ?_
    refine rg_put (d := 16) (v := .el ((List.drop 0 ((eDf (ix l k)))))) rfl (og rfl (of_eff (s_field_el rfl Try.underlying36 rfl ti9 rfl rfl rfl) rfl)) ?_
    refine rg_put (d := 17) (v := .d (.fl (.string ((ix l k).key)))) rfl (og rfl (op_load_el rfl Try.underlying9 rfl rfl rfl rfl)) ?_
    refine rg_put (d := 18) (v := .d (.ag (eRco ((Rco.mk 3 ((ix l k).key) 0 0 0))))) rfl (og rfl (of_eff (op_build rfl Try.underlying29 ti29 rfl (by kernel_rfl) (by kernel_rfl) (pl := #[(0, 1), (1, 1), (2, 1), (3, 1), (4, 1)]) (by kernel_rfl) (.cons rfl rfl (.d _) rfl rfl rfl (.cons rfl rfl (.d _) rfl rfl rfl .nil)) rfl) rfl)) ?_
    refine rg_put (d := 19) (v := .d (.sl 5 (List.map eRco [(Rco.mk 3 ((ix l k).key) 0 0 0)]))) rfl (og rfl (of_eff (op_slices rfl Try.underlying25 ti29 rfl rfl rfl (by kernel_rfl) (xs := [.ag (eRco ((Rco.mk 3 ((ix l k).key) 0 0 0)))]) rfl rfl (.cons rfl rfl (.d _) rfl rfl rfl .nil) rfl) rfl)) ?_
    refine rg_nam (d := 20) (v := .ow 102) (m := 102) (nw := [(102, .tr 29 5 (tD eRco (((rec l k) ++ [(Rco.mk 3 ((ix l k).key) 0 0 0)])))), (101, .no)]) rfl (og rfl (of_eff (s_append_td 102 rfl Try.underlying25 ti29 rfl rfl rfl rfl rfl (.d _) (by simp only [List.length_append, List.length_cons, List.length_nil]; have := rec_len l k; omega) rfl) rfl)) rfl ?_
    refine rg_put (d := 3) (v := .ow 102) rfl (og rfl (op_assign rfl rfl rfl)) ?_
    refine rg_done rfl ?_
    refine a_rseq ?_
    refine rg_put (d := 21) (v := .d (.sl 3 (List.map eDf l))) rfl (og rfl (op_move rfl rfl rfl)) ?_
    refine rg_put (d := 22) (v := .d (.fl (.int .i64 (k : Int)))) rfl (og rfl (op_move rfl rfl rfl)) ?_
    refine rg_put (d := 23) (v := .el ((eDf (ix l k)))) rfl (og rfl (s_index rfl Try.underlying22 ti36 rfl rfl (by omega) (row_at (by omega)) rfl)) ?_
    refine rg_put (d := 24) (v := .el ((List.drop 1 ((eDf (ix l k)))))) rfl (og rfl (of_eff (s_field_el rfl Try.underlying36 rfl ti3 rfl rfl rfl) rfl)) ?_
    refine rg_put (d := 25) (v := .d (.fl (.int .i64 ((ix l k).ours)))) rfl (og rfl (op_load_el rfl Try.underlying3 rfl rfl rfl rfl)) ?_
    refine rg_put (d := 26) (v := .d (.fl (.bool (((ix l k).ours != 0))))) rfl (og rfl (op_bin rfl rfl rfl (b_neq _ _ _ _) rfl)) ?_
    refine rg_done rfl ?_
    refine a_cond rfl (fun h3 => ?_) (fun h3 => ?_)
    · skip
      have h4 := t_bne h3
      refine a_draw (by kernel_rfl) ?_
      refine dr_put (d := 27) (v := .ow 102) rfl (og rfl (op_move rfl rfl rfl)) ?_
      refine dr_put (d := 28) (v := .d (.sl 3 (List.map eDf l))) rfl (og rfl (op_move rfl rfl rfl)) ?_
      refine dr_put (d := 29) (v := .d (.fl (.int .i64 (k : Int)))) rfl (og rfl (op_move rfl rfl rfl)) ?_
      refine dr_put (d := 30) (v := .el ((eDf (ix l k)))) rfl (og rfl (s_index rfl Try.underlying22 ti36 rfl rfl (by omega) (row_at (by omega)) rfl)) ?_
      refine dr_put (d := 31) (v := .el ((List.drop 0 ((eDf (ix l k)))))) rfl (og rfl (of_eff (s_field_el rfl Try.underlying36 rfl ti9 rfl rfl rfl) rfl)) ?_
      refine dr_put (d := 32) (v := .d (.fl (.string ((ix l k).key)))) rfl (og rfl (op_load_el rfl Try.underlying9 rfl rfl rfl rfl)) ?_
      refine dr_put (d := 33) (v := .d (.sl 3 (List.map eDf l))) rfl (og rfl (op_move rfl rfl rfl)) ?_
      refine dr_put (d := 34) (v := .d (.fl (.int .i64 (k : Int)))) rfl (og rfl (op_move rfl rfl rfl)) ?_
      refine dr_put (d := 35) (v := .el ((eDf (ix l k)))) rfl (og rfl (s_index rfl Try.underlying22 ti36 rfl rfl (by omega) (row_at (by omega)) rfl)) ?_
      refine dr_put (d := 36) (v := .el ((List.drop 1 ((eDf (ix l k)))))) rfl (og rfl (of_eff (s_field_el rfl Try.underlying36 rfl ti3 rfl rfl rfl) rfl)) ?_
      refine dr_put (d := 37) (v := .d (.fl (.int .i64 ((ix l k).ours)))) rfl (og rfl (op_load_el rfl Try.underlying3 rfl rfl rfl rfl)) ?_
      refine dr_put (d := 38) (v := .d (.ag (eRco ((Rco.mk 1 ((ix l k).key) 0 ((ix l k).ours) 0))))) rfl (og rfl (of_eff (op_build rfl Try.underlying29 ti29 rfl (by kernel_rfl) (by kernel_rfl) (pl := #[(0, 1), (1, 1), (2, 1), (3, 1), (4, 1)]) (by kernel_rfl) (.cons rfl rfl (.d _) rfl rfl rfl (.cons rfl rfl (.d _) rfl rfl rfl (.cons rfl rfl (.d _) rfl rfl rfl .nil))) rfl) rfl)) ?_
      refine dr_put (d := 39) (v := .d (.sl 5 (List.map eRco [(Rco.mk 1 ((ix l k).key) 0 ((ix l k).ours) 0)]))) rfl (og rfl (of_eff (op_slices rfl Try.underlying25 ti29 rfl rfl rfl (by kernel_rfl) (xs := [.ag (eRco ((Rco.mk 1 ((ix l k).key) 0 ((ix l k).ours) 0)))]) rfl rfl (.cons rfl rfl (.d _) rfl rfl rfl .nil) rfl) rfl)) ?_
      refine dr_nam (d := 40) (v := .ow 103) (m := 103) (nw := [(103, .tr 29 5 (tD eRco ((((rec l k) ++ [(Rco.mk 3 ((ix l k).key) 0 0 0)]) ++ [(Rco.mk 1 ((ix l k).key) 0 ((ix l k).ours) 0)])))), (102, .no)]) rfl (og rfl (of_eff (s_append_td 103 rfl Try.underlying25 ti29 rfl rfl rfl rfl rfl (.d _) (by simp only [List.length_append, List.length_cons, List.length_nil]; have := rec_len l k; omega) rfl) rfl)) ?_
      refine dr_put (d := 3) (v := .ow 103) rfl (og rfl (op_assign rfl rfl rfl)) ?_
      refine dr_done rfl (sepB_of [0, 0, 0, 6, 14, 30, 0, 0, 192, 448, 960, 2046, 4094, 8191, 16383] (by kernel_rfl)) (by kernel_rfl) ?_
      show A _ _ _ _ _ _ _
      refine a_region ?_
      refine rg_put (d := 10) (v := .d (.fl (.int .i64 (k : Int)))) rfl (og rfl (op_move rfl rfl rfl)) ?_
      refine rg_put (d := 11) (v := .d (.fl (.int .i64 (((k : Int) + 1))))) rfl (og rfl (op_bin rfl rfl rfl (fun x y w => b_add64 _ _ _ x y w (by omega)) rfl)) ?_
      refine rg_put (d := 4) (v := .d (.fl (.int .i64 (((k : Int) + 1))))) rfl (og rfl (op_assign rfl rfl rfl)) ?_
      refine rg_done rfl ?_
      show ∃ i, _ ∧ _ ∧ Imp _ _ _ _ _
      refine ⟨k + 1, by omega, by omega, imp_ren (fun m => bif Nat.beq m 101 then 103 else m) rfl ⟨rfl, rfl, (by first | rfl | exact ci (by omega) | exact ci (by simp) | exact cd (by simp) | simp), rfl, trivial⟩ ⟨(congrArg (fun z => Ob.tr 29 5 (tD eRco z)) (rec_yes (by omega) h3)), trivial⟩⟩
    · skip
      have h5 := f_bne h3
      refine a_skip ?_
      show A _ _ _ _ _ _ _
      refine a_region ?_
      refine rg_put (d := 10) (v := .d (.fl (.int .i64 (k : Int)))) rfl (og rfl (op_move rfl rfl rfl)) ?_
      refine rg_put (d := 11) (v := .d (.fl (.int .i64 (((k : Int) + 1))))) rfl (og rfl (op_bin rfl rfl rfl (fun x y w => b_add64 _ _ _ x y w (by omega)) rfl)) ?_
      refine rg_put (d := 4) (v := .d (.fl (.int .i64 (((k : Int) + 1))))) rfl (og rfl (op_assign rfl rfl rfl)) ?_
      refine rg_done rfl ?_
      show ∃ i, _ ∧ _ ∧ Imp _ _ _ _ _
      refine ⟨k + 1, by omega, by omega, imp_ren (fun m => bif Nat.beq m 101 then 102 else m) rfl ⟨rfl, rfl, (by first | rfl | exact ci (by omega) | exact ci (by simp) | exact cd (by simp) | simp), rfl, trivial⟩ ⟨(congrArg (fun z => Ob.tr 29 5 (tD eRco z)) (rec_no (by omega) h3)), trivial⟩⟩
  · skip
    have h6 := f_dec h1
    refine a_exit ?_
    show A _ _ _ _ _ _ _
    refine a_rseq ?_
    refine rg_put (d := 41) (v := .ow 101) rfl (og rfl (op_move rfl rfl rfl)) ?_
    refine rg_put (d := 2) (v := .ow 101) rfl (og rfl (op_assign rfl rfl rfl)) ?_
    refine rg_done rfl ?_
    refine a_imp (imp_leakT 2 101 rfl rfl) ?_
    refine a_ret ?_
    show ∃ ds, ResL _ _ _ ds ∧ RV.of ds = _
    refine ⟨[.sl 5 (List.map eRco (rec l k))], (.cons (.tmp rfl (.d _)) .nil), ?_⟩
    have hkl : k = l.length := by omega
    subst hkl
    rfl
set_option maxHeartbeats 4000000 in
set_option maxRecDepth 100000 in
theorem same5 (a : List Rco) (ha : a.length ≤ 9223372036854775807) : Ctr Try.prog 5 [.sl 5 (List.map eRco a), .sl 5 (List.map eRco a)] (.d (.fl (.bool true))) := by
  refine ctr (n := 26) (rs := #[.tmp 4]) (L := [(0, .d (.sl 5 (List.map eRco a))), (1, .d (.sl 5 (List.map eRco a)))]) Try.func5 rfl rfl rfl rfl rfl (fun w0 U0 => ?_)
  refine a_rseq ?_
  refine rg_put (d := 4) (v := .d (.fl (.bool false))) rfl (og rfl (op_assign rfl rfl rfl)) ?_
  refine rg_done rfl ?_
  refine a_seq ?_
  refine a_rseq ?_
  refine rg_put (d := 6) (v := .d (.sl 5 (List.map eRco a))) rfl (og rfl (op_move rfl rfl rfl)) ?_
  refine rg_put (d := 7) (v := .d (.fl (.int .i64 (a.length : Int)))) rfl (og rfl (s_len rfl Try.underlying25 rfl rfl)) ?_
  refine rg_put (d := 8) (v := .d (.sl 5 (List.map eRco a))) rfl (og rfl (op_move rfl rfl rfl)) ?_
  refine rg_put (d := 9) (v := .d (.fl (.int .i64 (a.length : Int)))) rfl (og rfl (s_len rfl Try.underlying25 rfl rfl)) ?_
  refine rg_put (d := 10) (v := .d (.fl (.bool (((a.length : Int) != (a.length : Int)))))) rfl (og rfl (op_bin rfl rfl rfl (b_neq _ _ _ _) rfl)) ?_
  refine rg_done rfl ?_
  refine a_condF rfl (ne_self_b _) ?_
  refine a_skip ?_
  show A _ _ _ _ _ _ _
  refine a_seq ?_
  refine a_rseq ?_
  refine rg_put (d := 5) (v := .d (.fl (.int .i64 0))) rfl (og rfl (op_assign rfl rfl rfl)) ?_
  refine rg_done rfl ?_
  refine a_block ?_
  refine a_loop (ι := Nat) (fun k => SS [(0, .d (.sl 5 (List.map eRco a))), (1, .d (.sl 5 (List.map eRco a))), (10, .d (.fl (.bool (((a.length : Int) != (a.length : Int)))))), (5, .d (.fl (.int .i64 (k : Int))))] []) (fun k => k ≤ a.length) (fun k => a.length - k) 0 (by omega) (imp_forget rfl ⟨rfl, rfl, rfl, (by first | rfl | exact ci (by omega) | exact ci (by simp) | exact cd (by simp) | simp), trivial⟩ trivial) (fun k hok => ?_)
  have hk := hok
  refine a_seq ?_
  refine a_rseq ?_
  refine rg_put (d := 11) (v := .d (.fl (.int .i64 (k : Int)))) rfl (og rfl (op_move rfl rfl rfl)) ?_
  refine rg_put (d := 12) (v := .d (.sl 5 (List.map eRco a))) rfl (og rfl (op_move rfl rfl rfl)) ?_
  refine rg_put (d := 13) (v := .d (.fl (.int .i64 (a.length : Int)))) rfl (og rfl (s_len rfl Try.underlying25 rfl rfl)) ?_
  refine rg_put (d := 14) (v := .d (.fl (.bool ((decide ((k : Int) < (a.length : Int))))))) rfl (og rfl (op_bin rfl rfl rfl (b_lss _ _ _ _) rfl)) ?_
  refine rg_done rfl ?_
  refine a_cond rfl (fun h1 => ?_) (fun h1 => ?_)
  · skip
    have h2 := t_dec h1
    refine a_skip ?_
    show A _ _ _ _ _ _ _
    refine a_seq ?_
    refine a_block ?_
    refine a_dseq (by kernel_rfl) ?_
    refine dr_put (d := 17) (v := .d (.sl 5 (List.map eRco a))) rfl (og rfl (op_move rfl rfl rfl)) ?_
    refine dr_put (d := 18) (v := .d (.fl (.int .i64 (k : Int)))) rfl (og rfl (op_move rfl rfl rfl)) ?_
    refine dr_put (d := 19) (v := .el ((eRco (ix a k)))) rfl (og rfl (s_index rfl Try.underlying25 ti29 rfl rfl (by omega) (row_at (by omega)) rfl)) ?_
    refine dr_put (d := 20) (v := .d (.ag (eRco (ix a k)))) rfl (og rfl (of_eff (s_load_els rfl Try.underlying29 rfl ti29 rfl rfl rfl) rfl)) ?_
    refine dr_put (d := 21) (v := .d (.sl 5 (List.map eRco a))) rfl (og rfl (op_move rfl rfl rfl)) ?_
    refine dr_put (d := 22) (v := .d (.fl (.int .i64 (k : Int)))) rfl (og rfl (op_move rfl rfl rfl)) ?_
    refine dr_put (d := 23) (v := .el ((eRco (ix a k)))) rfl (og rfl (s_index rfl Try.underlying25 ti29 rfl rfl (by omega) (row_at (by omega)) rfl)) ?_
    refine dr_put (d := 24) (v := .d (.ag (eRco (ix a k)))) rfl (og rfl (of_eff (s_load_els rfl Try.underlying29 rfl ti29 rfl rfl rfl) rfl)) ?_
    refine dr_put (d := 25) (v := .d (.fl (.bool false))) rfl (og rfl (op_eqS [.int .i64 ((ix a k).kind), .string ((ix a k).key), .int .i64 ((ix a k).time), .int .i64 ((ix a k).cents), .int .i64 ((ix a k).why)] [.int .i64 ((ix a k).kind), .string ((ix a k).key), .int .i64 ((ix a k).time), .int .i64 ((ix a k).cents), .int .i64 ((ix a k).why)] rfl rfl rfl (b := false) (fun ww => neq29 (ix a k) _ _ ww) rfl)) ?_
    refine dr_done rfl (by kernel_rfl) (by kernel_rfl) ?_
    refine a_condF rfl rfl ?_
    refine a_skip ?_
    show A _ _ _ _ _ _ _
    refine a_region ?_
    refine rg_put (d := 15) (v := .d (.fl (.int .i64 (k : Int)))) rfl (og rfl (op_move rfl rfl rfl)) ?_
    refine rg_put (d := 16) (v := .d (.fl (.int .i64 (((k : Int) + 1))))) rfl (og rfl (op_bin rfl rfl rfl (fun x y w => b_add64 _ _ _ x y w (by omega)) rfl)) ?_
    refine rg_put (d := 5) (v := .d (.fl (.int .i64 (((k : Int) + 1))))) rfl (og rfl (op_assign rfl rfl rfl)) ?_
    refine rg_done rfl ?_
    show ∃ i, _ ∧ _ ∧ Imp _ _ _ _ _
    refine ⟨k + 1, (by omega), by omega, imp_forget rfl ⟨rfl, rfl, rfl, (by first | rfl | exact ci (by omega) | exact ci (by simp) | exact cd (by simp) | simp), trivial⟩ trivial⟩
  · skip
    have h3 := f_dec h1
    refine a_exit ?_
    show A _ _ _ _ _ _ _
    refine a_rseq ?_
    refine rg_put (d := 4) (v := .d (.fl (.bool true))) rfl (og rfl (op_assign rfl rfl rfl)) ?_
    refine rg_done rfl ?_
    refine a_ret ?_
    show ∃ ds, ResL _ _ _ ds ∧ RV.of ds = _
    refine ⟨[.fl (.bool true)], (.cons (.tmp rfl (.d _)) .nil), ?_⟩
    rfl
set_option maxHeartbeats 4000000 in
set_option maxRecDepth 100000 in
theorem law3 (l : List Df) : Ctr Try.prog 3 [.sl 3 (List.map eDf l)] (.d (.fl (.bool true))) := by
  refine ctr (n := 15) (rs := #[.tmp 2]) (L := [(0, .d (.sl 3 (List.map eDf l)))]) Try.func3 rfl rfl rfl rfl rfl (fun w0 U0 => ?_)
  refine a_rseq ?_
  refine rg_put (d := 2) (v := .d (.fl (.bool false))) rfl (og rfl (op_assign rfl rfl rfl)) ?_
  refine rg_done rfl ?_
  refine a_seq ?_
  refine a_rseq ?_
  refine rg_put (d := 3) (v := .d (.sl 3 (List.map eDf l))) rfl (og rfl (op_move rfl rfl rfl)) ?_
  refine rg_put (d := 4) (v := .d (.fl (.int .i64 (l.length : Int)))) rfl (og rfl (s_len rfl Try.underlying22 rfl rfl)) ?_
  refine rg_put (d := 5) (v := .d (.fl (.bool ((decide (100 < (l.length : Int))))))) rfl (og rfl (op_bin rfl rfl rfl (b_gtr _ _ _ _) rfl)) ?_
  refine rg_done rfl ?_
  refine a_cond rfl (fun h1 => ?_) (fun h1 => ?_)
  · skip
    have h2 := t_dec h1
    refine a_rseq ?_
    refine rg_put (d := 6) (v := .d (.fl (.bool true))) rfl (og rfl (op_call rfl Try.func4 nm4 rfl .nil alive4 rfl)) ?_
    refine rg_put (d := 2) (v := .d (.fl (.bool true))) rfl (og rfl (op_assign rfl rfl rfl)) ?_
    refine rg_done rfl ?_
    refine a_ret ?_
    show ∃ ds, ResL _ _ _ ds ∧ RV.of ds = _
    refine ⟨[.fl (.bool true)], (.cons (.tmp rfl (.d _)) .nil), ?_⟩
    rfl
  · skip
    have h3 := f_dec h1
    refine a_skip ?_
    show A _ _ _ _ _ _ _
    refine a_rseq ?_
    refine rg_put (d := 7) (v := .d (.sl 3 (List.map eDf l))) rfl (og rfl (op_move rfl rfl rfl)) ?_
    refine rg_put (d := 8) (v := .d (.sl 5 (List.map eRco (recs l)))) rfl (og rfl (op_call rfl Try.func6 nm6 rfl (.cons rfl (.d _) .nil) (cor6 l (by omega)) rfl)) ?_
    refine rg_put (d := 9) (v := .d (.sl 3 (List.map eDf l))) rfl (og rfl (op_move rfl rfl rfl)) ?_
    refine rg_put (d := 10) (v := .d (.sl 5 (List.map eRco (recs l)))) rfl (og rfl (op_call rfl Try.func7 nm7 rfl (.cons rfl (.d _) .nil) (cor7 l (by omega)) rfl)) ?_
    refine rg_put (d := 11) (v := .d (.fl (.bool true))) rfl (og rfl (op_call rfl Try.func5 nm5 rfl (.cons rfl (.d _) (.cons rfl (.d _) .nil)) (same5 (recs l) (by have := recs_len l; omega)) rfl)) ?_
    refine rg_put (d := 12) (v := .d (.fl (.bool true))) rfl (og rfl (op_move rfl rfl rfl)) ?_
    refine rg_put (d := 13) (v := .d (.fl (.bool true))) rfl (oy rfl rfl rfl rfl (op_call rfl Try.func4 nm4 rfl .nil alive4 rfl)) ?_
    refine rg_put (d := 14) (v := .d (.fl (.bool true))) rfl (og rfl (op_pick rfl rfl rfl rfl)) ?_
    refine rg_put (d := 2) (v := .d (.fl (.bool true))) rfl (og rfl (op_assign rfl rfl rfl)) ?_
    refine rg_done rfl ?_
    refine a_ret ?_
    show ∃ ds, ResL _ _ _ ds ∧ RV.of ds = _
    refine ⟨[.fl (.bool true)], (.cons (.tmp rfl (.d _)) .nil), ?_⟩
    rfl
end Go.Proofs.Ytdajcbcgbmpgeaa.Wk
