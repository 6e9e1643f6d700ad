/- The law of differences. No condition. -/
import Derived.Test.YtobgdemhadlgnaaAl
import Derived.Test.YtobgdemhadlgnaaB3
set_option linter.unusedSimpArgs false
set_option linter.unusedVariables false
namespace Go.Proofs.Ytobgdemhadlgnaa.Wk
open Go Go.RowKit Go.Sort Go.Shelf Go.Lib Go.Proofs.Ytobgdemhadlgnaa.Av
structure OkP (p : Ptn) : Prop where
  lo : p.ours.length ≤ 40
  lt : p.theirs.length ≤ 40
  oo : okR p.ours
  ot : okR p.theirs
  zo : ∀ r ∈ p.ours, r.key.size ≤ 20
  zt : ∀ r ∈ p.theirs, r.key.size ≤ 20
def bdR (r : Rec) : Bool := (decide (1099511627776 < r.cents) || decide (r.cents < -1099511627776)) || decide (20 < (r.key.size : Int))
theorem bdR_f {r : Rec} (h : bdR r = false) : (-1125899906842624 ≤ r.cents ∧ r.cents ≤ 1125899906842624) ∧ r.key.size ≤ 20 := by
  unfold bdR at h
  simp only [Bool.or_eq_false_iff, decide_eq_false_iff_not] at h
  omega
def recB (l : List Rec) : Bool := (l.all fun r => !(bdR r)) && decide ((l.length : Int) ≤ 40)
theorem recB_t {l : List Rec} (h : recB l = true) : l.length ≤ 40 ∧ okR l ∧ ∀ r ∈ l, r.key.size ≤ 20 := by
  unfold recB at h
  rw [Bool.and_eq_true, decide_eq_true_eq, List.all_eq_true] at h
  have key : ∀ r ∈ l, bdR r = false := fun r hr => by simpa using h.1 r hr
  exact ⟨by omega, fun r hr => (bdR_f (key r hr)).1, fun r hr => (bdR_f (key r hr)).2⟩
def smB (p : Ptn) : Bool := (recB p.ours && recB p.theirs) && decide ((p.wait.length : Int) ≤ 6)
theorem okP_r {p : Ptn} (h : smB p = true) : OkP p := by
  unfold smB at h
  simp only [Bool.and_eq_true] at h
  obtain ⟨⟨h1, h2⟩, _⟩ := h
  obtain ⟨a1, a2, a3⟩ := recB_t h1
  obtain ⟨b1, b2, b3⟩ := recB_t h2
  exact ⟨a1, b1, a2, b2, a3, b3⟩

theorem sLt_sc {s u : ByteArray} (h : sLt s u = true) : sc s u < 0 := by
  rcases sc_cases s u with ⟨e, h2⟩ | ⟨e, _, _⟩ | ⟨e, h3, hn⟩
  · subst h2
    exfalso
    unfold sLt at h
    rw [ByteArray.toList_eq, Go.Proofs.bytesLess_eq, decide_eq_true_eq] at h
    exact List.lt_irrefl _ h
  · omega
  · exfalso
    unfold sLt at h h3
    rw [ByteArray.toList_eq, ByteArray.toList_eq, Go.Proofs.bytesLess_eq, decide_eq_true_eq] at h h3
    exact List.lt_asymm h h3
theorem sc_pos {s u : ByteArray} (h1 : sLt s u = false) (h2 : sEq s u = false) : 0 < sc s u := by
  rcases sc_cases s u with ⟨e, h3⟩ | ⟨e, h3, _⟩ | ⟨e, _, _⟩
  · subst h3; simp [sEq] at h2
  · rw [h3] at h1; cases h1
  · omega
theorem kk_pw {l : List Rec} {i : Nat} : (srtS (fk l i)).Pairwise (fun y z => sc y z ≤ 0) := srtS_pw _
theorem kk_len (l : List Rec) (i : Nat) : (srtS (fk l i)).length ≤ i := by rw [srtS_len]; exact fk_len l i
theorem ins_1 {l : List Rec} {i j : Nat} (hj : j < (srtS (fk l i)).length) (he : sEq (ix (srtS (fk l i)) j) (ix l i).key = true) : srtS (fk l i) = srtS (fk l (i + 1)) := by
  have hm : (ix l i).key ∈ fk l i := by rw [← sEq_eq he]; exact (srtS_perm _).mem_iff.1 (ix_mem hj)
  rw [show fk l (i + 1) = fk l i from adS_y (any_mem.2 hm)]
theorem ins_2 {l : List Rec} {i j : Nat} (hj : j ≤ (srtS (fk l i)).length) (hq : ∀ q, q < j → sLt (ix (srtS (fk l i)) q) (ix l i).key = true) (hn : j < (srtS (fk l i)).length → sLt (ix (srtS (fk l i)) j) (ix l i).key = false ∧ sEq (ix (srtS (fk l i)) j) (ix l i).key = false) : ((srtS (fk l i)).take j ++ [(ix l i).key]) ++ (srtS (fk l i)).drop j = srtS (fk l (i + 1)) := by
  generalize hX : (ix l i).key = X at *
  have hpw := kk_pw (l := l) (i := i)
  have hperm := srtS_perm (fk l i)
  have hup : ∀ q, j ≤ q → q < (srtS (fk l i)).length → 0 < sc (ix (srtS (fk l i)) q) X := fun q h1 h2 => by
    have h3 := sc_pos (hn (by omega)).1 (hn (by omega)).2
    rcases Nat.lt_or_ge j q with h | h
    · have h4 := List.pairwise_iff_getElem.1 hpw j q (by omega) h2 h
      rw [ix_eq (by omega), ix_eq h2] at h4
      rcases Int.lt_or_le 0 (sc (ix (srtS (fk l i)) q) X) with h5 | h5
      · exact h5
      · have := (sc_tq _ _ _ h4 h5).1; omega
    · have : q = j := by omega
      subst this; exact h3
  have hnm : X ∉ fk l i := fun hm => by
    obtain ⟨q, hq1, hq2⟩ := mem_ix (hperm.mem_iff.2 hm)
    rcases Nat.lt_or_ge q j with h | h
    · have := sLt_sc (hq q h); rw [hq2] at this; have := sc_neg X X; omega
    · have := hup q h hq1; rw [hq2] at this; have := sc_neg X X; omega
  rw [show fk l (i + 1) = fk l i ++ [X] from by rw [← hX]; exact adS_n (any_non (by rw [hX]; exact hnm))]
  refine srtS_eq ?_ ?_
  · refine List.Perm.trans ?_ (List.Perm.append_right [X] hperm)
    rw [List.append_assoc]
    conv => rhs; rw [← List.take_append_drop j (srtS (fk l i))]
    rw [List.append_assoc]
    exact List.Perm.append_left _ List.perm_append_comm
  · refine List.pairwise_append.2 ⟨List.pairwise_append.2 ⟨hpw.sublist (List.take_sublist _ _), List.pairwise_singleton _ _, fun y hy z hz => ?_⟩, hpw.sublist (List.drop_sublist _ _), fun y hy z hz => ?_⟩
    · rw [List.mem_singleton] at hz; subst hz
      obtain ⟨q, h1, h2⟩ := mem_ix hy
      rw [List.length_take] at h1
      rw [← h2, ← ix_eq (by rw [List.length_take]; exact h1), List.getElem_take, ix_eq (by omega)]
      exact Int.le_of_lt (sLt_sc (hq q (by omega)))
    · have hz' : ∃ q, j ≤ q ∧ q < (srtS (fk l i)).length ∧ z = ix (srtS (fk l i)) q := by
        obtain ⟨q, h1, h2⟩ := mem_ix hz
        rw [List.length_drop] at h1
        exact ⟨j + q, by omega, by omega, by rw [← h2, ← ix_eq (by rw [List.length_drop]; exact h1), List.getElem_drop, ix_eq (by omega)]⟩
      obtain ⟨q, g1, g2, rfl⟩ := hz'
      rcases List.mem_append.1 hy with hy | hy
      · have := (List.pairwise_append.1 (by rw [List.take_append_drop]; exact hpw : ((srtS (fk l i)).take j ++ (srtS (fk l i)).drop j).Pairwise (fun y z => sc y z ≤ 0))).2.2 y hy _ hz
        exact this
      · rw [List.mem_singleton] at hy; subst hy
        have := hup q g1 g2
        have := sc_neg y (ix (srtS (fk l i)) q)
        omega
def agB (a b : Ptn) : Bool := (((dfL a.ours b.theirs).length : Int) == 0) && (((dfL b.ours a.theirs).length : Int) == 0)

def one (d : Dfr) : List Rec := if (d.ours != 0) = true then [⟨3, d.key, 0, 0, 0⟩, ⟨1, d.key, 0, d.ours, 0⟩] else [⟨3, d.key, 0, 0, 0⟩]
def rec (l : List Dfr) (k : Nat) : List Rec := (l.take k).flatMap one
theorem rec_s {l : List Dfr} {k : Nat} (h : k < l.length) : rec l (k + 1) = rec l k ++ one (ix l k) := by
  unfold rec
  rw [take_ix h, List.flatMap_append]
  simp
theorem rec_yes {l : List Dfr} {k : Nat} (h : k < l.length) (hb : ((ix l k).ours != 0) = true) : ((rec l k ++ [Rec.mk 3 (ix l k).key 0 0 0]) ++ [Rec.mk 1 (ix l k).key 0 (ix l k).ours 0]) = rec l (k + 1) := by rw [rec_s h, one, if_pos hb]; simp
theorem rec_no {l : List Dfr} {k : Nat} (h : k < l.length) (hb : ((ix l k).ours != 0) = false) : (rec l k ++ [Rec.mk 3 (ix l k).key 0 0 0]) = rec l (k + 1) := by rw [rec_s h, one, if_neg (by rw [hb]; decide)]
theorem rec_len (l : List Dfr) : ∀ k, (rec l k).length ≤ 2 * k
  | 0 => by simp [rec]
  | k + 1 => by
    by_cases h : k < l.length
    · rw [rec_s h, List.length_append]
      have := rec_len l k
      have : (one (ix l k)).length ≤ 2 := by unfold one; split <;> simp
      omega
    · have e : rec l (k + 1) = rec l k := by unfold rec; rw [List.take_of_length_le (by omega), List.take_of_length_le (by omega)]
      rw [e]; have := rec_len l k; omega
def recs (l : List Dfr) : List Rec := rec l l.length
theorem recs_len (l : List Dfr) : (recs l).length ≤ 2 * l.length := rec_len l _

theorem eqI37 (a : Rec) (w : World) : (Op.equalIn 10000 37 (.agg (([.int .i64 a.kind, .string a.key, .int .i64 a.time, .int .i64 a.cents, .int .i64 a.why] : List Value).toArray)) (.agg (([.int .i64 a.kind, .string a.key, .int .i64 a.time, .int .i64 a.cents, .int .i64 a.why] : List Value).toArray))).run Try.prog w = .ok true w := by
  have hS : Try.prog.underlying 37 = some (.struct (Try.prog.fieldsOf 37)) := by kernel_rfl
  have hp : Try.prog.stoodInHeld 37 = false := by kernel_rfl
  rw [show (10000 : Nat) = 9999 + 1 from rfl, run_equalIn_agg w 9999 37 _ _ hS hp]
  simp only [Program.fieldsOf, Try.underlying37]
  go_simp

theorem eql37 (a : Rec) (x y : Operand) (w : World) : (do eqGuard .eql 37 x y (.agg (([.int .i64 a.kind, .string a.key, .int .i64 a.time, .int .i64 a.cents, .int .i64 a.why] : List Value).toArray)) (.agg (([.int .i64 a.kind, .string a.key, .int .i64 a.time, .int .i64 a.cents, .int .i64 a.why] : List Value).toArray)); binOp .eql 37 (.agg (([.int .i64 a.kind, .string a.key, .int .i64 a.time, .int .i64 a.cents, .int .i64 a.why] : List Value).toArray)) (.agg (([.int .i64 a.kind, .string a.key, .int .i64 a.time, .int .i64 a.cents, .int .i64 a.why] : List Value).toArray)) : Sem Value).run Try.prog w = .ok (.bool true) w := by
  have hm : Try.prog.eqGuardType Try.prog.depth 37 = false := by kernel_rfl
  rw [Sem.run_bind, run_eqGuard_agg w .eql 37 x y _ _ hm, Result.andThen_ok, run_eql_struct, eqI37]
  rfl

theorem neq37 (a : Rec) (x y : Operand) (w : World) : (do eqGuard .neq 37 x y (.agg (([.int .i64 a.kind, .string a.key, .int .i64 a.time, .int .i64 a.cents, .int .i64 a.why] : List Value).toArray)) (.agg (([.int .i64 a.kind, .string a.key, .int .i64 a.time, .int .i64 a.cents, .int .i64 a.why] : List Value).toArray)); binOp .neq 37 (.agg (([.int .i64 a.kind, .string a.key, .int .i64 a.time, .int .i64 a.cents, .int .i64 a.why] : List Value).toArray)) (.agg (([.int .i64 a.kind, .string a.key, .int .i64 a.time, .int .i64 a.cents, .int .i64 a.why] : List Value).toArray)) : Sem Value).run Try.prog w = .ok (.bool false) w := by
  have hm : Try.prog.eqGuardType Try.prog.depth 37 = false := by kernel_rfl
  rw [Sem.run_bind, run_eqGuard_agg w .neq 37 x y _ _ hm, Result.andThen_ok, run_neq_struct, eqI37]
  rfl

theorem eqI31 (a : Dfr) (w : World) : (Op.equalIn 10000 31 (.agg (([.string a.key, .int .i64 a.ours, .int .i64 a.theirs] : List Value).toArray)) (.agg (([.string a.key, .int .i64 a.ours, .int .i64 a.theirs] : List Value).toArray))).run Try.prog w = .ok true w := by
  have hS : Try.prog.underlying 31 = some (.struct (Try.prog.fieldsOf 31)) := by kernel_rfl
  have hp : Try.prog.stoodInHeld 31 = false := by kernel_rfl
  rw [show (10000 : Nat) = 9999 + 1 from rfl, run_equalIn_agg w 9999 31 _ _ hS hp]
  simp only [Program.fieldsOf, Try.underlying31]
  go_simp

theorem eql31 (a : Dfr) (x y : Operand) (w : World) : (do eqGuard .eql 31 x y (.agg (([.string a.key, .int .i64 a.ours, .int .i64 a.theirs] : List Value).toArray)) (.agg (([.string a.key, .int .i64 a.ours, .int .i64 a.theirs] : List Value).toArray)); binOp .eql 31 (.agg (([.string a.key, .int .i64 a.ours, .int .i64 a.theirs] : List Value).toArray)) (.agg (([.string a.key, .int .i64 a.ours, .int .i64 a.theirs] : List Value).toArray)) : Sem Value).run Try.prog w = .ok (.bool true) w := by
  have hm : Try.prog.eqGuardType Try.prog.depth 31 = false := by kernel_rfl
  rw [Sem.run_bind, run_eqGuard_agg w .eql 31 x y _ _ hm, Result.andThen_ok, run_eql_struct, eqI31]
  rfl

theorem neq31 (a : Dfr) (x y : Operand) (w : World) : (do eqGuard .neq 31 x y (.agg (([.string a.key, .int .i64 a.ours, .int .i64 a.theirs] : List Value).toArray)) (.agg (([.string a.key, .int .i64 a.ours, .int .i64 a.theirs] : List Value).toArray)); binOp .neq 31 (.agg (([.string a.key, .int .i64 a.ours, .int .i64 a.theirs] : List Value).toArray)) (.agg (([.string a.key, .int .i64 a.ours, .int .i64 a.theirs] : List Value).toArray)) : Sem Value).run Try.prog w = .ok (.bool false) w := by
  have hm : Try.prog.eqGuardType Try.prog.depth 31 = false := by kernel_rfl
  rw [Sem.run_bind, run_eqGuard_agg w .neq 31 x y _ _ hm, Result.andThen_ok, run_neq_struct, eqI31]
  rfl

set_option maxHeartbeats 4000000 in
set_option maxRecDepth 100000 in
theorem recC (l : List Rec) (hl : l.length ≤ 9223372036854775807) : Ctr Try.prog 13 [.sl 5 (List.map eRec l)] (.d (.fl (.bool (recB l)))) := by
  refine ctr (n := 36) (rs := #[.tmp 2]) (L := [(0, .d (.sl 5 (List.map eRec l)))]) Try.func13 rfl rfl rfl rfl rfl (fun w0 U0 => ?_)
  refine a_rseq ?_
  refine rg_put (d := 2) (v := .d (.fl (.bool false))) rfl (og rfl (op_assign rfl rfl rfl)) ?_
  refine rg_done rfl ?_
  refine a_seq ?_
  refine a_rseq ?_
  refine rg_put (d := 3) (v := .d (.fl (.int .i64 0))) rfl (og rfl (op_assign rfl rfl rfl)) ?_
  refine rg_done rfl ?_
  refine a_block ?_
  refine a_loop (ι := Nat) (fun k => SS [(0, .d (.sl 5 (List.map eRec l))), (3, .d (.fl (.int .i64 (k : Int))))] []) (fun k => k ≤ l.length ∧ ∀ q, q < k → bdR (ix l q) = false) (fun k => l.length - k) 0 (⟨by omega, fun q h => absurd h (Nat.not_lt_zero _)⟩) (imp_forget rfl ⟨rfl, rfl, trivial⟩ trivial) (fun k hok => ?_)
  obtain ⟨hk, hq⟩ := hok
  refine a_seq ?_
  refine a_rseq ?_
  refine rg_put (d := 4) (v := .d (.fl (.int .i64 (k : Int)))) rfl (og rfl (op_move rfl rfl rfl)) ?_
  refine rg_put (d := 5) (v := .d (.sl 5 (List.map eRec l))) rfl (og rfl (op_move rfl rfl rfl)) ?_
  refine rg_put (d := 6) (v := .d (.fl (.int .i64 (l.length : Int)))) rfl (og rfl (s_len rfl Try.underlying23 rfl rfl)) ?_
  refine rg_put (d := 7) (v := .d (.fl (.bool ((decide ((k : Int) < (l.length : Int))))))) rfl (og rfl (op_bin rfl rfl rfl (b_lss _ _ _ _) rfl)) ?_
  refine rg_done rfl ?_
  refine a_cond rfl (fun h1 => ?_) (fun h1 => ?_)
  · skip
    have h2 := t_dec h1
    refine a_skip ?_
    show A _ _ _ _ _ _ _
    refine a_seq ?_
    refine a_block ?_
    refine a_rseq ?_
    refine rg_put (d := 10) (v := .d (.sl 5 (List.map eRec l))) rfl (og rfl (op_move rfl rfl rfl)) ?_
    refine rg_put (d := 11) (v := .d (.fl (.int .i64 (k : Int)))) rfl (og rfl (op_move rfl rfl rfl)) ?_
    refine rg_put (d := 12) (v := .el ((eRec (ix l k)))) rfl (og rfl (s_index rfl Try.underlying23 ti37 rfl rfl (by omega) (row_at (by omega)) rfl)) ?_
    refine rg_put (d := 13) (v := .el ((List.drop 3 ((eRec (ix l k)))))) rfl (og rfl (of_eff (s_field_el rfl Try.underlying37 rfl ti3 rfl rfl rfl) rfl)) ?_
    refine rg_put (d := 14) (v := .d (.fl (.int .i64 ((ix l k).cents)))) rfl (og rfl (op_load_el rfl Try.underlying3 rfl rfl rfl rfl)) ?_
    refine rg_put (d := 15) (v := .d (.fl (.bool ((decide (1099511627776 < (ix l k).cents)))))) rfl (og rfl (op_bin rfl rfl rfl (b_gtr _ _ _ _) rfl)) ?_
    refine rg_put (d := 16) (v := .d (.fl (.bool ((decide (1099511627776 < (ix l k).cents)))))) rfl (og rfl (op_move rfl rfl rfl)) ?_
    rcases fot ((decide (1099511627776 < (ix l k).cents))) with h3 | h3
    · skip
      have h4 := f_dec h3
      refine rg_put (d := 17) (v := .d (.sl 5 (List.map eRec l))) rfl (oy rfl rfl rfl h3 (op_move rfl rfl rfl)) ?_
      refine rg_put (d := 18) (v := .d (.fl (.int .i64 (k : Int)))) rfl (oy rfl rfl rfl h3 (op_move rfl rfl rfl)) ?_
      refine rg_put (d := 19) (v := .el ((eRec (ix l k)))) rfl (oy rfl rfl rfl h3 (s_index rfl Try.underlying23 ti37 rfl rfl (by omega) (row_at (by omega)) rfl)) ?_
      refine rg_put (d := 20) (v := .el ((List.drop 3 ((eRec (ix l k)))))) rfl (oy rfl rfl rfl h3 (of_eff (s_field_el rfl Try.underlying37 rfl ti3 rfl rfl rfl) rfl)) ?_
      refine rg_put (d := 21) (v := .d (.fl (.int .i64 ((ix l k).cents)))) rfl (oy rfl rfl rfl h3 (op_load_el rfl Try.underlying3 rfl rfl rfl rfl)) ?_
      refine rg_put (d := 22) (v := .d (.fl (.bool ((decide ((ix l k).cents < (-1099511627776))))))) rfl (oy rfl rfl rfl h3 (op_bin rfl rfl rfl (b_lss _ _ _ _) rfl)) ?_
      refine rg_put (d := 23) (v := .d (.fl (.bool ((decide ((ix l k).cents < (-1099511627776))))))) rfl (og rfl (op_pick rfl rfl (by rw [h3]; rfl) rfl)) ?_
      refine rg_put (d := 24) (v := .d (.fl (.bool ((decide ((ix l k).cents < (-1099511627776))))))) rfl (og rfl (op_move rfl rfl rfl)) ?_
      rcases fot ((decide ((ix l k).cents < (-1099511627776)))) with h5 | h5
      · skip
        have h6 := f_dec h5
        refine rg_put (d := 25) (v := .d (.sl 5 (List.map eRec l))) rfl (oy rfl rfl rfl h5 (op_move rfl rfl rfl)) ?_
        refine rg_put (d := 26) (v := .d (.fl (.int .i64 (k : Int)))) rfl (oy rfl rfl rfl h5 (op_move rfl rfl rfl)) ?_
        refine rg_put (d := 27) (v := .el ((eRec (ix l k)))) rfl (oy rfl rfl rfl h5 (s_index rfl Try.underlying23 ti37 rfl rfl (by omega) (row_at (by omega)) rfl)) ?_
        refine rg_put (d := 28) (v := .el ((List.drop 1 ((eRec (ix l k)))))) rfl (oy rfl rfl rfl h5 (of_eff (s_field_el rfl Try.underlying37 rfl ti9 rfl rfl rfl) rfl)) ?_
        refine rg_put (d := 29) (v := .d (.fl (.string ((ix l k).key)))) rfl (oy rfl rfl rfl h5 (op_load_el rfl Try.underlying9 rfl rfl rfl rfl)) ?_
        refine rg_put (d := 30) (v := .d (.fl (.int .i64 ((((ix l k).key).size : Int))))) rfl (oy rfl rfl rfl h5 (op_len_str rfl Try.underlying9 rfl rfl)) ?_
        refine rg_put (d := 31) (v := .d (.fl (.bool ((decide (20 < (((ix l k).key).size : Int))))))) rfl (oy rfl rfl rfl h5 (op_bin rfl rfl rfl (b_gtr _ _ _ _) rfl)) ?_
        refine rg_put (d := 32) (v := .d (.fl (.bool ((decide (20 < (((ix l k).key).size : Int))))))) rfl (og rfl (op_pick rfl rfl (by rw [h5]; rfl) rfl)) ?_
        refine rg_done rfl ?_
        refine a_cond rfl (fun h7 => ?_) (fun h7 => ?_)
        · skip
          have h8 := t_dec h7
          refine a_rseq ?_
          refine rg_put (d := 2) (v := .d (.fl (.bool false))) rfl (og rfl (op_assign rfl rfl rfl)) ?_
          refine rg_done rfl ?_
          refine a_ret ?_
          show ∃ ds, ResL _ _ _ ds ∧ RV.of ds = _
          refine ⟨[.fl (.bool false)], (.cons (.tmp rfl (.d _)) .nil), ?_⟩
          have hb : bdR (ix l k) = true := by unfold bdR; simp only [h1, h3, h5, h7, Bool.true_or, Bool.false_or, Bool.or_true, Bool.or_false, Bool.not_true, Bool.not_false, cond_true, cond_false, Bool.true_and, Bool.false_and, Bool.and_true, Bool.and_false] <;> rfl
          have ha : (l.all fun r => !(bdR r)) = false := by
            cases hc : (l.all fun r => !(bdR r)) with
            | false => rfl
            | true => have := List.all_eq_true.1 hc _ (ix_mem (by omega : k < l.length)); rw [hb] at this; cases this
          rw [show recB l = false from by unfold recB; rw [ha]; rfl]; rfl
        · skip
          have h9 := f_dec h7
          refine a_skip ?_
          show A _ _ _ _ _ _ _
          refine a_region ?_
          refine rg_put (d := 8) (v := .d (.fl (.int .i64 (k : Int)))) rfl (og rfl (op_move rfl rfl rfl)) ?_
          refine rg_put (d := 9) (v := .d (.fl (.int .i64 (((k : Int) + 1))))) rfl (og rfl (op_bin rfl rfl rfl (fun x y w => b_add64 _ _ _ x y w (by omega)) rfl)) ?_
          refine rg_put (d := 3) (v := .d (.fl (.int .i64 (((k : Int) + 1))))) rfl (og rfl (op_assign rfl rfl rfl)) ?_
          refine rg_done rfl ?_
          have hx : bdR (ix l k) = false := by unfold bdR; simp only [h1, h3, h5, h7, Bool.true_or, Bool.false_or, Bool.or_true, Bool.or_false, Bool.not_true, Bool.not_false, cond_true, cond_false, Bool.true_and, Bool.false_and, Bool.and_true, Bool.and_false] <;> rfl
          show ∃ i, _ ∧ _ ∧ Imp _ _ _ _ _
          refine ⟨k + 1, ⟨by omega, fun q h => (Nat.lt_succ_iff_lt_or_eq.1 h).elim (hq q) (fun e => by rw [e]; exact hx)⟩, (by (show l.length - (k + 1) < l.length - k); omega), imp_forget rfl ⟨rfl, (ci (by omega)), trivial⟩ trivial⟩
      · skip
        have h10 := t_dec h5
        refine rg_put (d := 25) (v := .d (.fl undef)) rfl (on rfl rfl rfl h5) ?_
        refine rg_put (d := 26) (v := .d (.fl undef)) rfl (on rfl rfl rfl h5) ?_
        refine rg_put (d := 27) (v := .d (.fl undef)) rfl (on rfl rfl rfl h5) ?_
        refine rg_put (d := 28) (v := .d (.fl undef)) rfl (on rfl rfl rfl h5) ?_
        refine rg_put (d := 29) (v := .d (.fl undef)) rfl (on rfl rfl rfl h5) ?_
        refine rg_put (d := 30) (v := .d (.fl undef)) rfl (on rfl rfl rfl h5) ?_
        refine rg_put (d := 31) (v := .d (.fl undef)) rfl (on rfl rfl rfl h5) ?_
        refine rg_put (d := 32) (v := .d (.fl (.bool true))) rfl (og rfl (op_pick rfl rfl (by rw [h5]; rfl) rfl)) ?_
        refine rg_done rfl ?_
        refine a_condK rfl rfl ?_
        refine a_rseq ?_
        refine rg_put (d := 2) (v := .d (.fl (.bool false))) rfl (og rfl (op_assign rfl rfl rfl)) ?_
        refine rg_done rfl ?_
        refine a_ret ?_
        show ∃ ds, ResL _ _ _ ds ∧ RV.of ds = _
        refine ⟨[.fl (.bool false)], (.cons (.tmp rfl (.d _)) .nil), ?_⟩
        have hb : bdR (ix l k) = true := by unfold bdR; simp only [h1, h3, h5, Bool.true_or, Bool.false_or, Bool.or_true, Bool.or_false, Bool.not_true, Bool.not_false, cond_true, cond_false, Bool.true_and, Bool.false_and, Bool.and_true, Bool.and_false] <;> rfl
        have ha : (l.all fun r => !(bdR r)) = false := by
          cases hc : (l.all fun r => !(bdR r)) with
          | false => rfl
          | true => have := List.all_eq_true.1 hc _ (ix_mem (by omega : k < l.length)); rw [hb] at this; cases this
        rw [show recB l = false from by unfold recB; rw [ha]; rfl]; rfl
    · skip
      have h11 := t_dec h3
      refine rg_put (d := 17) (v := .d (.fl undef)) rfl (on rfl rfl rfl h3) ?_
      refine rg_put (d := 18) (v := .d (.fl undef)) rfl (on rfl rfl rfl h3) ?_
      refine rg_put (d := 19) (v := .d (.fl undef)) rfl (on rfl rfl rfl h3) ?_
      refine rg_put (d := 20) (v := .d (.fl undef)) rfl (on rfl rfl rfl h3) ?_
      refine rg_put (d := 21) (v := .d (.fl undef)) rfl (on rfl rfl rfl h3) ?_
      refine rg_put (d := 22) (v := .d (.fl undef)) rfl (on rfl rfl rfl h3) ?_
      refine rg_put (d := 23) (v := .d (.fl (.bool true))) rfl (og rfl (op_pick rfl rfl (by rw [h3]; rfl) rfl)) ?_
      refine rg_put (d := 24) (v := .d (.fl (.bool true))) rfl (og rfl (op_move rfl rfl rfl)) ?_
      refine rg_put (d := 25) (v := .d (.fl undef)) rfl (on rfl rfl rfl rfl) ?_
      refine rg_put (d := 26) (v := .d (.fl undef)) rfl (on rfl rfl rfl rfl) ?_
      refine rg_put (d := 27) (v := .d (.fl undef)) rfl (on rfl rfl rfl rfl) ?_
      refine rg_put (d := 28) (v := .d (.fl undef)) rfl (on rfl rfl rfl rfl) ?_
      refine rg_put (d := 29) (v := .d (.fl undef)) rfl (on rfl rfl rfl rfl) ?_
      refine rg_put (d := 30) (v := .d (.fl undef)) rfl (on rfl rfl rfl rfl) ?_
      refine rg_put (d := 31) (v := .d (.fl undef)) rfl (on rfl rfl rfl rfl) ?_
      refine rg_put (d := 32) (v := .d (.fl (.bool true))) rfl (og rfl (op_pick rfl rfl rfl rfl)) ?_
      refine rg_done rfl ?_
      refine a_condK rfl rfl ?_
      refine a_rseq ?_
      refine rg_put (d := 2) (v := .d (.fl (.bool false))) rfl (og rfl (op_assign rfl rfl rfl)) ?_
      refine rg_done rfl ?_
      refine a_ret ?_
      show ∃ ds, ResL _ _ _ ds ∧ RV.of ds = _
      refine ⟨[.fl (.bool false)], (.cons (.tmp rfl (.d _)) .nil), ?_⟩
      have hb : bdR (ix l k) = true := by unfold bdR; simp only [h1, h3, Bool.true_or, Bool.false_or, Bool.or_true, Bool.or_false, Bool.not_true, Bool.not_false, cond_true, cond_false, Bool.true_and, Bool.false_and, Bool.and_true, Bool.and_false] <;> rfl
      have ha : (l.all fun r => !(bdR r)) = false := by
        cases hc : (l.all fun r => !(bdR r)) with
        | false => rfl
        | true => have := List.all_eq_true.1 hc _ (ix_mem (by omega : k < l.length)); rw [hb] at this; cases this
      rw [show recB l = false from by unfold recB; rw [ha]; rfl]; rfl
  · skip
    have h12 := f_dec h1
    refine a_exit ?_
    show A _ _ _ _ _ _ _
    refine a_rseq ?_
    refine rg_put (d := 33) (v := .d (.sl 5 (List.map eRec l))) rfl (og rfl (op_move rfl rfl rfl)) ?_
    refine rg_put (d := 34) (v := .d (.fl (.int .i64 (l.length : Int)))) rfl (og rfl (s_len rfl Try.underlying23 rfl rfl)) ?_
    refine rg_put (d := 35) (v := .d (.fl (.bool ((decide ((l.length : Int) ≤ 40)))))) rfl (og rfl (op_bin rfl rfl rfl (b_leq _ _ _ _) rfl)) ?_
    refine rg_put (d := 2) (v := .d (.fl (.bool ((decide ((l.length : Int) ≤ 40)))))) rfl (og rfl (op_assign rfl rfl rfl)) ?_
    refine rg_done rfl ?_
    refine a_ret ?_
    show ∃ ds, ResL _ _ _ ds ∧ RV.of ds = _
    refine ⟨[.fl (.bool ((decide ((l.length : Int) ≤ 40))))], (.cons (.tmp rfl (.d _)) .nil), ?_⟩
    have ha : (l.all fun r => !(bdR r)) = true := List.all_eq_true.2 (fun r hr => by obtain ⟨q, h1, rfl⟩ := mem_ix hr; rw [hq q (by omega)]; rfl)
    rw [show recB l = decide ((l.length : Int) ≤ 40) from by unfold recB; rw [ha]; rfl]; rfl
set_option maxHeartbeats 4000000 in
set_option maxRecDepth 100000 in
theorem smC (p : Ptn) (hl1 : p.ours.length ≤ 9223372036854775807) (hl2 : p.theirs.length ≤ 9223372036854775807) : Ctr Try.prog 4 [.ag (ePt p)] (.d (.fl (.bool (smB p)))) := by
  refine ctr (n := 17) (rs := #[.tmp 2]) (L := [(0, .d (.ag (ePt p)))]) Try.func4 rfl rfl rfl rfl rfl (fun w0 U0 => ?_)
  refine a_rseq ?_
  refine rg_nam (d := 1) (v := .pt 101 0) (m := 101) (nw := [(101, .bx 25 (ePt p))]) rfl (og rfl (of_eff (op_box 101 rfl rfl rfl rfl) rfl)) rfl ?_
  refine rg_put (d := 2) (v := .d (.fl (.bool false))) rfl (og rfl (op_assign rfl rfl rfl)) ?_
  refine rg_done rfl ?_
  refine a_rseq ?_
  refine rg_put (d := 3) (v := .pt 101 4) rfl (og rfl (of_eff (s_field_pt rfl Try.underlying25 rfl ti23 rfl rfl rfl) rfl)) ?_
  refine rg_put (d := 4) (v := .d (.sl 5 (List.map eRec p.ours))) rfl (og rfl (op_load_pt rfl Try.underlying23 rfl rfl rfl rfl rfl)) ?_
  refine rg_put (d := 5) (v := .d (.fl (.bool (recB p.ours)))) rfl (og rfl (op_call rfl Try.func13 nm13 rfl (.cons rfl (.d _) .nil) (recC p.ours hl1) rfl)) ?_
  refine rg_put (d := 6) (v := .d (.fl (.bool (recB p.ours)))) rfl (og rfl (op_move rfl rfl rfl)) ?_
  rcases fot (recB p.ours) with h1 | h1
  · skip
    refine rg_put (d := 7) (v := .d (.fl undef)) rfl (on rfl rfl rfl h1) ?_
    refine rg_put (d := 8) (v := .d (.fl undef)) rfl (on rfl rfl rfl h1) ?_
    refine rg_put (d := 9) (v := .d (.fl undef)) rfl (on rfl rfl rfl h1) ?_
    refine rg_put (d := 10) (v := .d (.fl (.bool false))) rfl (og rfl (op_pick rfl rfl (by rw [h1]; rfl) rfl)) ?_
    refine rg_put (d := 11) (v := .d (.fl (.bool false))) rfl (og rfl (op_move rfl rfl rfl)) ?_
    refine rg_put (d := 12) (v := .d (.fl undef)) rfl (on rfl rfl rfl rfl) ?_
    refine rg_put (d := 13) (v := .d (.fl undef)) rfl (on rfl rfl rfl rfl) ?_
    refine rg_put (d := 14) (v := .d (.fl undef)) rfl (on rfl rfl rfl rfl) ?_
    refine rg_put (d := 15) (v := .d (.fl undef)) rfl (on rfl rfl rfl rfl) ?_
    refine rg_put (d := 16) (v := .d (.fl (.bool false))) rfl (og rfl (op_pick rfl rfl rfl rfl)) ?_
    refine rg_put (d := 2) (v := .d (.fl (.bool false))) rfl (og rfl (op_assign rfl rfl rfl)) ?_
    refine rg_done rfl ?_
    refine a_ret ?_
    show ∃ ds, ResL _ _ _ ds ∧ RV.of ds = _
    refine ⟨[.fl (.bool false)], (.cons (.tmp rfl (.d _)) .nil), ?_⟩
    first
      | (have hu : smB p = false := by
          unfold smB; simp only [h1, Bool.true_or, Bool.false_or, Bool.or_true, Bool.or_false, Bool.not_true, Bool.not_false, cond_true, cond_false, Bool.true_and, Bool.false_and, Bool.and_true, Bool.and_false] <;> rfl
         rw [hu]; rfl)
      | (exfalso; omega)
  · skip
    refine rg_put (d := 7) (v := .pt 101 5) rfl (oy rfl rfl rfl h1 (of_eff (s_field_pt rfl Try.underlying25 rfl ti23 rfl rfl rfl) rfl)) ?_
    refine rg_put (d := 8) (v := .d (.sl 5 (List.map eRec p.theirs))) rfl (oy rfl rfl rfl h1 (op_load_pt rfl Try.underlying23 rfl rfl rfl rfl rfl)) ?_
    refine rg_put (d := 9) (v := .d (.fl (.bool (recB p.theirs)))) rfl (oy rfl rfl rfl h1 (op_call rfl Try.func13 nm13 rfl (.cons rfl (.d _) .nil) (recC p.theirs hl2) rfl)) ?_
    refine rg_put (d := 10) (v := .d (.fl (.bool (recB p.theirs)))) rfl (og rfl (op_pick rfl rfl (by rw [h1]; rfl) rfl)) ?_
    refine rg_put (d := 11) (v := .d (.fl (.bool (recB p.theirs)))) rfl (og rfl (op_move rfl rfl rfl)) ?_
    rcases fot (recB p.theirs) with h2 | h2
    · skip
      refine rg_put (d := 12) (v := .d (.fl undef)) rfl (on rfl rfl rfl h2) ?_
      refine rg_put (d := 13) (v := .d (.fl undef)) rfl (on rfl rfl rfl h2) ?_
      refine rg_put (d := 14) (v := .d (.fl undef)) rfl (on rfl rfl rfl h2) ?_
      refine rg_put (d := 15) (v := .d (.fl undef)) rfl (on rfl rfl rfl h2) ?_
      refine rg_put (d := 16) (v := .d (.fl (.bool false))) rfl (og rfl (op_pick rfl rfl (by rw [h2]; rfl) rfl)) ?_
      refine rg_put (d := 2) (v := .d (.fl (.bool false))) rfl (og rfl (op_assign rfl rfl rfl)) ?_
      refine rg_done rfl ?_
      refine a_ret ?_
      show ∃ ds, ResL _ _ _ ds ∧ RV.of ds = _
      refine ⟨[.fl (.bool false)], (.cons (.tmp rfl (.d _)) .nil), ?_⟩
      first
        | (have hu : smB p = false := by
            unfold smB; simp only [h1, h2, Bool.true_or, Bool.false_or, Bool.or_true, Bool.or_false, Bool.not_true, Bool.not_false, cond_true, cond_false, Bool.true_and, Bool.false_and, Bool.and_true, Bool.and_false] <;> rfl
           rw [hu]; rfl)
        | (exfalso; omega)
    · skip
      refine rg_put (d := 12) (v := .pt 101 3) rfl (oy rfl rfl rfl h2 (of_eff (s_field_pt rfl Try.underlying25 rfl ti22 rfl rfl rfl) rfl)) ?_
      refine rg_put (d := 13) (v := .d (.sl 4 (List.map eFle p.wait))) rfl (oy rfl rfl rfl h2 (op_load_pt rfl Try.underlying22 rfl rfl rfl rfl rfl)) ?_
      refine rg_put (d := 14) (v := .d (.fl (.int .i64 (p.wait.length : Int)))) rfl (oy rfl rfl rfl h2 (s_len rfl Try.underlying22 rfl rfl)) ?_
      refine rg_put (d := 15) (v := .d (.fl (.bool ((decide ((p.wait.length : Int) ≤ 6)))))) rfl (oy rfl rfl rfl h2 (op_bin rfl rfl rfl (b_leq _ _ _ _) rfl)) ?_
      refine rg_put (d := 16) (v := .d (.fl (.bool ((decide ((p.wait.length : Int) ≤ 6)))))) rfl (og rfl (op_pick rfl rfl (by rw [h2]; rfl) rfl)) ?_
      refine rg_put (d := 2) (v := .d (.fl (.bool ((decide ((p.wait.length : Int) ≤ 6)))))) rfl (og rfl (op_assign rfl rfl rfl)) ?_
      refine rg_done rfl ?_
      refine a_ret ?_
      show ∃ ds, ResL _ _ _ ds ∧ RV.of ds = _
      refine ⟨[.fl (.bool ((decide ((p.wait.length : Int) ≤ 6))))], (.cons (.tmp rfl (.d _)) .nil), ?_⟩
      first
        | (have hu : smB p = (decide ((p.wait.length : Int) ≤ 6)) := by
            unfold smB; simp only [h1, h2, Bool.true_or, Bool.false_or, Bool.or_true, Bool.or_false, Bool.not_true, Bool.not_false, cond_true, cond_false, Bool.true_and, Bool.false_and, Bool.and_true, Bool.and_false] <;> rfl
           rw [hu]; rfl)
        | (exfalso; omega)
set_option maxHeartbeats 4000000 in
set_option maxRecDepth 100000 in
theorem amtC (la lb : List Rec) (hA : la.length ≤ 200) (hB : lb.length ≤ 200) : Ctr Try.prog 21 [.sl 5 (List.map eRec la), .sl 5 (List.map eRec lb)] (.d (.sl 1 (List.map rS (kAll la lb)))) := by
  refine ctr (n := 77) (rs := #[.tmp 4]) (L := [(0, .d (.sl 5 (List.map eRec la))), (1, .d (.sl 5 (List.map eRec lb)))]) Try.func21 rfl rfl rfl rfl rfl (fun w0 U0 => ?_)
  refine a_rseq ?_
  refine rg_put (d := 4) (v := .d (.fl (.slice none 0 0))) rfl (og rfl (op_assign rfl rfl rfl)) ?_
  refine rg_done rfl ?_
  refine a_rseq ?_
  refine rg_nam (d := 10) (v := .ow 101) (m := 101) (nw := [(101, .tr 9 1 (tD rS []))]) rfl (og rfl (of_eff (op_slice0 101 rfl Try.underlying48 ti9 rfl) rfl)) rfl ?_
  refine rg_put (d := 5) (v := .ow 101) rfl (og rfl (op_assign rfl rfl rfl)) ?_
  refine rg_done rfl ?_
  refine a_rseq ?_
  refine rg_nam (d := 11) (v := .ow 102) (m := 102) (nw := [(102, .tr 37 5 (tD eRec []))]) rfl (og rfl (of_eff (op_slice0 102 rfl Try.underlying23 ti37 rfl) rfl)) rfl ?_
  refine rg_put (d := 12) (v := .d (.sl 5 (List.map eRec la))) rfl (og rfl (op_move rfl rfl rfl)) ?_
  refine rg_nam (d := 13) (v := .ow 103) (m := 103) (nw := [(103, .tr 37 5 (tD eRec ([] ++ la))), (102, .no)]) rfl (og rfl (of_eff (s_append_td 103 rfl Try.underlying23 ti37 rfl rfl rfl rfl rfl (.d _) (by simp only [List.length_append, List.length_cons, List.length_nil, List.length_take, List.length_drop]; omega) rfl) rfl)) rfl ?_
  refine rg_put (d := 14) (v := .d (.sl 5 (List.map eRec lb))) rfl (og rfl (op_move rfl rfl rfl)) ?_
  refine rg_nam (d := 15) (v := .ow 104) (m := 104) (nw := [(104, .tr 37 5 (tD eRec ((([] ++ la) ++ lb)))), (103, .no)]) rfl (og rfl (of_eff (s_append_td 104 rfl Try.underlying23 ti37 rfl rfl rfl rfl rfl (.d _) (by simp only [List.length_append, List.length_cons, List.length_nil, List.length_take, List.length_drop]; omega) rfl) rfl)) rfl ?_
  refine rg_put (d := 6) (v := .ow 104) rfl (og rfl (op_assign rfl rfl rfl)) ?_
  refine rg_done rfl ?_
  refine a_seq ?_
  refine a_rseq ?_
  refine rg_imp (imp_leakT 5 101 (f := rS) (l := []) rfl rfl) ?_
  refine rg_imp (imp_leakT 6 104 rfl rfl) ?_
  rw [show (([] ++ la) ++ lb) = (la ++ lb) from rfl]
  have hABl : (la ++ lb).length = la.length + lb.length := List.length_append
  refine rg_put (d := 7) (v := .d (.fl (.int .i64 0))) rfl (og rfl (op_assign rfl rfl rfl)) ?_
  refine rg_done rfl ?_
  refine a_block ?_
  refine a_loop (ι := Nat) (fun i => SS [(0, .d (.sl 5 (List.map eRec la))), (1, .d (.sl 5 (List.map eRec lb))), (4, .d (.fl (.slice none 0 0))), (6, .d (.sl 5 (List.map eRec (la ++ lb)))), (7, .d (.fl (.int .i64 (i : Int)))), (5, .d (.sl 1 (List.map rS ((srtS (fk (la ++ lb) i))))))] []) (fun i => i ≤ (la ++ lb).length) (fun i => (la ++ lb).length - i) 0 (by omega) (imp_forget rfl ⟨rfl, rfl, rfl, rfl, rfl, (cd (congrArg (fun z => DV.sl 1 (List.map rS z)) srtS_nil.symm)), trivial⟩ trivial) (fun i hok => ?_)
  have hi := hok
  have hul := kk_len (la ++ lb) i
  refine a_seq ?_
  refine a_rseq ?_
  refine rg_put (d := 16) (v := .d (.fl (.int .i64 (i : Int)))) rfl (og rfl (op_move rfl rfl rfl)) ?_
  refine rg_put (d := 17) (v := .d (.sl 5 (List.map eRec (la ++ lb)))) rfl (og rfl (op_move rfl rfl rfl)) ?_
  refine rg_put (d := 18) (v := .d (.fl (.int .i64 (((la ++ lb).length : Int))))) rfl (og rfl (s_len rfl Try.underlying23 rfl rfl)) ?_
  refine rg_put (d := 19) (v := .d (.fl (.bool ((decide ((i : Int) < ((la ++ lb).length : Int))))))) rfl (og rfl (op_bin rfl rfl rfl (b_lss _ _ _ _) rfl)) ?_
  refine rg_done rfl ?_
  refine a_cond rfl (fun h1 => ?_) (fun h1 => ?_)
  · skip
    have h2 := t_dec h1
    refine a_skip ?_
    show A _ _ _ _ _ _ _
    refine a_seq ?_
    refine a_block ?_
    refine a_rseq ?_
    refine rg_put (d := 8) (v := .d (.fl (.int .i64 0))) rfl (og rfl (op_assign rfl rfl rfl)) ?_
    refine rg_done rfl ?_
    refine a_seq ?_
    refine a_block ?_
    refine a_loop (ι := Nat) (fun j => SS [(0, .d (.sl 5 (List.map eRec la))), (1, .d (.sl 5 (List.map eRec lb))), (4, .d (.fl (.slice none 0 0))), (5, .d (.sl 1 (List.map rS ((srtS (fk (la ++ lb) i)))))), (6, .d (.sl 5 (List.map eRec (la ++ lb)))), (7, .d (.fl (.int .i64 (i : Int)))), (19, .d (.fl (.bool ((decide ((i : Int) < ((la ++ lb).length : Int))))))), (8, .d (.fl (.int .i64 (j : Int))))] []) (fun j => j ≤ (srtS (fk (la ++ lb) i)).length ∧ ∀ q, q < j → (sLt (ix (srtS (fk (la ++ lb) i)) q) (ix (la ++ lb) i).key) = true) (fun j => (srtS (fk (la ++ lb) i)).length - j) 0 (⟨by omega, fun q h => absurd h (by omega)⟩) (imp_forget rfl ⟨rfl, rfl, rfl, rfl, rfl, rfl, rfl, (by first | rfl | exact ci (by omega) | exact ci (by simp) | exact cd (by simp) | simp), trivial⟩ trivial) (fun j hok => ?_)
    obtain ⟨hj, hq⟩ := hok
    refine a_seq ?_
    refine a_dseq (by kernel_rfl) ?_
    refine dr_put (d := 22) (v := .d (.fl (.int .i64 (j : Int)))) rfl (og rfl (op_move rfl rfl rfl)) ?_
    refine dr_put (d := 23) (v := .d (.sl 1 (List.map rS ((srtS (fk (la ++ lb) i)))))) rfl (og rfl (op_move rfl rfl rfl)) ?_
    refine dr_put (d := 24) (v := .d (.fl (.int .i64 ((((srtS (fk (la ++ lb) i))).length : Int))))) rfl (og rfl (s_len rfl Try.underlying48 rfl rfl)) ?_
    refine dr_put (d := 25) (v := .d (.fl (.bool ((decide ((j : Int) < (((srtS (fk (la ++ lb) i))).length : Int))))))) rfl (og rfl (op_bin rfl rfl rfl (b_lss _ _ _ _) rfl)) ?_
    refine dr_put (d := 26) (v := .d (.fl (.bool ((decide ((j : Int) < (((srtS (fk (la ++ lb) i))).length : Int))))))) rfl (og rfl (op_move rfl rfl rfl)) ?_
    rcases fot ((decide ((j : Int) < (((srtS (fk (la ++ lb) i))).length : Int)))) with h3 | h3
    · skip
      have h4 := f_dec h3
      refine dr_put (d := 27) (v := .d (.fl undef)) rfl (on rfl rfl rfl h3) ?_
      refine dr_put (d := 28) (v := .d (.fl undef)) rfl (on rfl rfl rfl h3) ?_
      refine dr_put (d := 29) (v := .d (.fl undef)) rfl (on rfl rfl rfl h3) ?_
      refine dr_put (d := 30) (v := .d (.fl undef)) rfl (on rfl rfl rfl h3) ?_
      refine dr_put (d := 31) (v := .d (.fl undef)) rfl (on rfl rfl rfl h3) ?_
      refine dr_put (d := 32) (v := .d (.fl undef)) rfl (on rfl rfl rfl h3) ?_
      refine dr_put (d := 33) (v := .d (.fl undef)) rfl (on rfl rfl rfl h3) ?_
      refine dr_put (d := 34) (v := .d (.fl undef)) rfl (on rfl rfl rfl h3) ?_
      refine dr_put (d := 35) (v := .d (.fl undef)) rfl (on rfl rfl rfl h3) ?_
      refine dr_put (d := 36) (v := .d (.fl undef)) rfl (on rfl rfl rfl h3) ?_
      refine dr_put (d := 37) (v := .d (.fl (.bool false))) rfl (og rfl (op_pick rfl rfl (by rw [h3]; rfl) rfl)) ?_
      refine dr_done rfl (sepB_of [0, 0, 2, 7, 15, 31, 31, 127, 255, 31, 31, 1567, 3615, 7711, 16383, 32767] (by kernel_rfl)) (by kernel_rfl) ?_
      refine a_condF rfl rfl ?_
      refine a_exit ?_
      show A _ _ _ _ _ _ _
      refine a_seq ?_
      refine a_dseq (by kernel_rfl) ?_
      refine dr_put (d := 40) (v := .d (.fl (.int .i64 (j : Int)))) rfl (og rfl (op_move rfl rfl rfl)) ?_
      refine dr_put (d := 41) (v := .d (.sl 1 (List.map rS ((srtS (fk (la ++ lb) i)))))) rfl (og rfl (op_move rfl rfl rfl)) ?_
      refine dr_put (d := 42) (v := .d (.fl (.int .i64 ((((srtS (fk (la ++ lb) i))).length : Int))))) rfl (og rfl (s_len rfl Try.underlying48 rfl rfl)) ?_
      refine dr_put (d := 43) (v := .d (.fl (.bool ((decide ((j : Int) < (((srtS (fk (la ++ lb) i))).length : Int))))))) rfl (og rfl (op_bin rfl rfl rfl (b_lss _ _ _ _) rfl)) ?_
      refine dr_put (d := 44) (v := .d (.fl (.bool ((decide ((j : Int) < (((srtS (fk (la ++ lb) i))).length : Int))))))) rfl (og rfl (op_move rfl rfl rfl)) ?_
      refine dr_put (d := 45) (v := .d (.fl undef)) rfl (on rfl rfl rfl h3) ?_
      refine dr_put (d := 46) (v := .d (.fl undef)) rfl (on rfl rfl rfl h3) ?_
      refine dr_put (d := 47) (v := .d (.fl undef)) rfl (on rfl rfl rfl h3) ?_
      refine dr_put (d := 48) (v := .d (.fl undef)) rfl (on rfl rfl rfl h3) ?_
      refine dr_put (d := 49) (v := .d (.fl undef)) rfl (on rfl rfl rfl h3) ?_
      refine dr_put (d := 50) (v := .d (.fl undef)) rfl (on rfl rfl rfl h3) ?_
      refine dr_put (d := 51) (v := .d (.fl undef)) rfl (on rfl rfl rfl h3) ?_
      refine dr_put (d := 52) (v := .d (.fl undef)) rfl (on rfl rfl rfl h3) ?_
      refine dr_put (d := 53) (v := .d (.fl undef)) rfl (on rfl rfl rfl h3) ?_
      refine dr_put (d := 54) (v := .d (.fl undef)) rfl (on rfl rfl rfl h3) ?_
      refine dr_put (d := 55) (v := .d (.fl (.bool false))) rfl (og rfl (op_pick rfl rfl (by rw [h3]; rfl) rfl)) ?_
      refine dr_done rfl (sepB_of [0, 0, 2, 7, 15, 31, 31, 127, 255, 31, 31, 1567, 3615, 7711, 16383, 32767] (by kernel_rfl)) (by kernel_rfl) ?_
      refine a_condF rfl rfl ?_
      refine a_skip ?_
      show A _ _ _ _ _ _ _
      refine a_rseq ?_
      refine rg_nam (d := 56) (v := .ow 105) (m := 105) (nw := [(105, .tr 9 1 (tD rS []))]) rfl (og rfl (of_eff (op_slice0 105 rfl Try.underlying48 ti9 rfl) rfl)) rfl ?_
      refine rg_put (d := 9) (v := .ow 105) rfl (og rfl (op_assign rfl rfl rfl)) ?_
      refine rg_done rfl ?_
      refine a_rseq ?_
      refine rg_put (d := 57) (v := .ow 105) rfl (og rfl (op_move rfl rfl rfl)) ?_
      refine rg_put (d := 58) (v := .d (.sl 1 (List.map rS ((srtS (fk (la ++ lb) i)))))) rfl (og rfl (op_move rfl rfl rfl)) ?_
      refine rg_put (d := 59) (v := .d (.fl (.int .i64 (j : Int)))) rfl (og rfl (op_move rfl rfl rfl)) ?_
      refine rg_put (d := 60) (v := .d (.sl 1 (List.map rS (((((srtS (fk (la ++ lb) i))).drop 0).take (j - 0)))))) rfl (og rfl (s_slice rfl Try.underlying48 ti9 rfl (.no _) (.so (n := j) _ rfl (by omega)) (by omega) (by omega) rfl)) ?_
      refine rg_nam (d := 61) (v := .ow 106) (m := 106) (nw := [(106, .tr 9 1 (tD rS (([] ++ ((((srtS (fk (la ++ lb) i))).drop 0).take (j - 0)))))), (105, .no)]) rfl (og rfl (of_eff (s_append_td 106 rfl Try.underlying48 ti9 rfl rfl rfl rfl rfl (.d _) (by simp only [List.length_append, List.length_cons, List.length_nil, List.length_take, List.length_drop]; omega) rfl) rfl)) rfl ?_
      refine rg_put (d := 9) (v := .ow 106) rfl (og rfl (op_assign rfl rfl rfl)) ?_
      refine rg_done rfl ?_
      refine a_rseq ?_
      refine rg_put (d := 62) (v := .ow 106) rfl (og rfl (op_move rfl rfl rfl)) ?_
      refine rg_put (d := 63) (v := .d (.sl 5 (List.map eRec (la ++ lb)))) rfl (og rfl (op_move rfl rfl rfl)) ?_
      refine rg_put (d := 64) (v := .d (.fl (.int .i64 (i : Int)))) rfl (og rfl (op_move rfl rfl rfl)) ?_
      refine rg_put (d := 65) (v := .el ((eRec ((ix (la ++ lb) i))))) rfl (og rfl (s_index rfl Try.underlying23 ti37 rfl rfl (by omega) (row_at (by omega)) rfl)) ?_
      refine rg_put (d := 66) (v := .el ((List.drop 1 ((eRec ((ix (la ++ lb) i))))))) rfl (og rfl (of_eff (s_field_el rfl Try.underlying37 rfl ti9 rfl rfl rfl) rfl)) ?_
      refine rg_put (d := 67) (v := .d (.fl (.string (((ix (la ++ lb) i)).key)))) rfl (og rfl (op_load_el rfl Try.underlying9 rfl rfl rfl rfl)) ?_
      refine rg_put (d := 68) (v := .d (.sl 1 (List.map rS [((ix (la ++ lb) i)).key]))) rfl (og rfl (of_eff (op_slices rfl Try.underlying48 ti9 rfl rfl rfl (by kernel_rfl) (xs := [.fl (.string (((ix (la ++ lb) i)).key))]) rfl rfl (.cons rfl rfl (.d _) rfl rfl rfl .nil) rfl) rfl)) ?_
      refine rg_nam (d := 69) (v := .ow 107) (m := 107) (nw := [(107, .tr 9 1 (tD rS ((([] ++ ((((srtS (fk (la ++ lb) i))).drop 0).take (j - 0))) ++ [((ix (la ++ lb) i)).key])))), (106, .no)]) rfl (og rfl (of_eff (s_append_td 107 rfl Try.underlying48 ti9 rfl rfl rfl rfl rfl (.d _) (by simp only [List.length_append, List.length_cons, List.length_nil, List.length_take, List.length_drop]; omega) rfl) rfl)) rfl ?_
      refine rg_put (d := 9) (v := .ow 107) rfl (og rfl (op_assign rfl rfl rfl)) ?_
      refine rg_done rfl ?_
      refine a_rseq ?_
      refine rg_put (d := 70) (v := .ow 107) rfl (og rfl (op_move rfl rfl rfl)) ?_
      refine rg_put (d := 71) (v := .d (.sl 1 (List.map rS ((srtS (fk (la ++ lb) i)))))) rfl (og rfl (op_move rfl rfl rfl)) ?_
      refine rg_put (d := 72) (v := .d (.fl (.int .i64 (j : Int)))) rfl (og rfl (op_move rfl rfl rfl)) ?_
      refine rg_put (d := 73) (v := .d (.sl 1 (List.map rS ((((srtS (fk (la ++ lb) i))).drop j))))) rfl (og rfl (s_sliceTail rfl Try.underlying48 ti9 rfl (.so (n := j) _ rfl (by omega)) (by omega) rfl)) ?_
      refine rg_nam (d := 74) (v := .ow 108) (m := 108) (nw := [(108, .tr 9 1 (tD rS (((([] ++ ((((srtS (fk (la ++ lb) i))).drop 0).take (j - 0))) ++ [((ix (la ++ lb) i)).key]) ++ (((srtS (fk (la ++ lb) i))).drop j))))), (107, .no)]) rfl (og rfl (of_eff (s_append_td 108 rfl Try.underlying48 ti9 rfl rfl rfl rfl rfl (.d _) (by simp only [List.length_append, List.length_cons, List.length_nil, List.length_take, List.length_drop]; omega) rfl) rfl)) rfl ?_
      refine rg_put (d := 9) (v := .ow 108) rfl (og rfl (op_assign rfl rfl rfl)) ?_
      refine rg_done rfl ?_
      refine a_region ?_
      refine rg_put (d := 75) (v := .ow 108) rfl (og rfl (op_move rfl rfl rfl)) ?_
      refine rg_put (d := 5) (v := .ow 108) rfl (og rfl (op_assign rfl rfl rfl)) ?_
      refine rg_done rfl ?_
      show A _ _ _ _ _ _ _
      refine a_region ?_
      rw [show ((([] ++ ((((srtS (fk (la ++ lb) i))).drop 0).take (j - 0))) ++ [((ix (la ++ lb) i)).key]) ++ (((srtS (fk (la ++ lb) i))).drop j)) = (srtS (fk (la ++ lb) (i + 1))) from (show ((([] ++ ((((srtS (fk (la ++ lb) i))).drop 0).take (j - 0))) ++ [((ix (la ++ lb) i)).key]) ++ (((srtS (fk (la ++ lb) i))).drop j)) = srtS (fk (la ++ lb) (i + 1)) from ins_2 (by omega) hq (fun h => absurd h (by omega)))]
      refine rg_imp (imp_leakT 5 108 rfl rfl) ?_
      refine rg_put (d := 20) (v := .d (.fl (.int .i64 (i : Int)))) rfl (og rfl (op_move rfl rfl rfl)) ?_
      refine rg_put (d := 21) (v := .d (.fl (.int .i64 (((i : Int) + 1))))) rfl (og rfl (op_bin rfl rfl rfl (fun x y w => b_add64 _ _ _ x y w (by omega)) rfl)) ?_
      refine rg_put (d := 7) (v := .d (.fl (.int .i64 (((i : Int) + 1))))) rfl (og rfl (op_assign rfl rfl rfl)) ?_
      refine rg_done rfl ?_
      have hst : (srtS (fk (la ++ lb) (i + 1))) = srtS (fk (la ++ lb) (i + 1)) := rfl
      show ∃ i, _ ∧ _ ∧ Imp _ _ _ _ _
      refine ⟨i + 1, (by omega), by omega, imp_forget rfl ⟨rfl, rfl, rfl, rfl, (ci (by omega)), (cd (congrArg (fun z => DV.sl 1 (List.map rS z)) hst)), trivial⟩ trivial⟩
    · skip
      have h5 := t_dec h3
      refine dr_put (d := 27) (v := .d (.sl 1 (List.map rS ((srtS (fk (la ++ lb) i)))))) rfl (oy rfl rfl rfl h3 (op_move rfl rfl rfl)) ?_
      refine dr_put (d := 28) (v := .d (.fl (.int .i64 (j : Int)))) rfl (oy rfl rfl rfl h3 (op_move rfl rfl rfl)) ?_
      refine dr_put (d := 29) (v := .el ((rS ((ix ((srtS (fk (la ++ lb) i))) j))))) rfl (oy rfl rfl rfl h3 (s_index rfl Try.underlying48 ti9 rfl rfl (by omega) (row_at (by omega)) rfl)) ?_
      refine dr_put (d := 30) (v := .d (.fl (.string ((ix ((srtS (fk (la ++ lb) i))) j))))) rfl (oy rfl rfl rfl h3 (op_load_el rfl Try.underlying9 rfl rfl rfl rfl)) ?_
      refine dr_put (d := 31) (v := .d (.sl 5 (List.map eRec (la ++ lb)))) rfl (oy rfl rfl rfl h3 (op_move rfl rfl rfl)) ?_
      refine dr_put (d := 32) (v := .d (.fl (.int .i64 (i : Int)))) rfl (oy rfl rfl rfl h3 (op_move rfl rfl rfl)) ?_
      refine dr_put (d := 33) (v := .el ((eRec ((ix (la ++ lb) i))))) rfl (oy rfl rfl rfl h3 (s_index rfl Try.underlying23 ti37 rfl rfl (by omega) (row_at (by omega)) rfl)) ?_
      refine dr_put (d := 34) (v := .el ((List.drop 1 ((eRec ((ix (la ++ lb) i))))))) rfl (oy rfl rfl rfl h3 (of_eff (s_field_el rfl Try.underlying37 rfl ti9 rfl rfl rfl) rfl)) ?_
      refine dr_put (d := 35) (v := .d (.fl (.string (((ix (la ++ lb) i)).key)))) rfl (oy rfl rfl rfl h3 (op_load_el rfl Try.underlying9 rfl rfl rfl rfl)) ?_
      refine dr_put (d := 36) (v := .d (.fl (.bool ((sLt ((ix ((srtS (fk (la ++ lb) i))) j)) (((ix (la ++ lb) i)).key)))))) rfl (oy rfl rfl rfl h3 (op_bin rfl rfl rfl (b_slt _ _ _) rfl)) ?_
      refine dr_put (d := 37) (v := .d (.fl (.bool ((sLt ((ix ((srtS (fk (la ++ lb) i))) j)) (((ix (la ++ lb) i)).key)))))) rfl (og rfl (op_pick rfl rfl (by rw [h3]; rfl) rfl)) ?_
      refine dr_done rfl (sepB_of [0, 0, 2, 7, 15, 31, 31, 127, 255, 31, 31, 1567, 3615, 7711, 16383, 32767] (by kernel_rfl)) (by kernel_rfl) ?_
      refine a_cond rfl (fun h6 => ?_) (fun h6 => ?_)
      · skip
        refine a_skip ?_
        show A _ _ _ _ _ _ _
        refine a_block ?_
        refine a_region ?_
        refine rg_put (d := 38) (v := .d (.fl (.int .i64 (j : Int)))) rfl (og rfl (op_move rfl rfl rfl)) ?_
        refine rg_put (d := 39) (v := .d (.fl (.int .i64 (((j : Int) + 1))))) rfl (og rfl (op_bin rfl rfl rfl (fun x y w => b_add64 _ _ _ x y w (by omega)) rfl)) ?_
        refine rg_put (d := 8) (v := .d (.fl (.int .i64 (((j : Int) + 1))))) rfl (og rfl (op_assign rfl rfl rfl)) ?_
        refine rg_done rfl ?_
        have hcj := h6
        show ∃ i, _ ∧ _ ∧ Imp _ _ _ _ _
        refine ⟨j + 1, ⟨by omega, fun q h => by rcases Nat.lt_succ_iff_lt_or_eq.1 h with h | h <;> first | exact hq q h | (subst h; exact hcj)⟩, by omega, imp_forget rfl ⟨rfl, rfl, rfl, rfl, rfl, rfl, rfl, (ci (by omega)), trivial⟩ trivial⟩
      · skip
        refine a_exit ?_
        show A _ _ _ _ _ _ _
        refine a_seq ?_
        refine a_dseq (by kernel_rfl) ?_
        refine dr_put (d := 40) (v := .d (.fl (.int .i64 (j : Int)))) rfl (og rfl (op_move rfl rfl rfl)) ?_
        refine dr_put (d := 41) (v := .d (.sl 1 (List.map rS ((srtS (fk (la ++ lb) i)))))) rfl (og rfl (op_move rfl rfl rfl)) ?_
        refine dr_put (d := 42) (v := .d (.fl (.int .i64 ((((srtS (fk (la ++ lb) i))).length : Int))))) rfl (og rfl (s_len rfl Try.underlying48 rfl rfl)) ?_
        refine dr_put (d := 43) (v := .d (.fl (.bool ((decide ((j : Int) < (((srtS (fk (la ++ lb) i))).length : Int))))))) rfl (og rfl (op_bin rfl rfl rfl (b_lss _ _ _ _) rfl)) ?_
        refine dr_put (d := 44) (v := .d (.fl (.bool ((decide ((j : Int) < (((srtS (fk (la ++ lb) i))).length : Int))))))) rfl (og rfl (op_move rfl rfl rfl)) ?_
        refine dr_put (d := 45) (v := .d (.sl 1 (List.map rS ((srtS (fk (la ++ lb) i)))))) rfl (oy rfl rfl rfl h3 (op_move rfl rfl rfl)) ?_
        refine dr_put (d := 46) (v := .d (.fl (.int .i64 (j : Int)))) rfl (oy rfl rfl rfl h3 (op_move rfl rfl rfl)) ?_
        refine dr_put (d := 47) (v := .el ((rS ((ix ((srtS (fk (la ++ lb) i))) j))))) rfl (oy rfl rfl rfl h3 (s_index rfl Try.underlying48 ti9 rfl rfl (by omega) (row_at (by omega)) rfl)) ?_
        refine dr_put (d := 48) (v := .d (.fl (.string ((ix ((srtS (fk (la ++ lb) i))) j))))) rfl (oy rfl rfl rfl h3 (op_load_el rfl Try.underlying9 rfl rfl rfl rfl)) ?_
        refine dr_put (d := 49) (v := .d (.sl 5 (List.map eRec (la ++ lb)))) rfl (oy rfl rfl rfl h3 (op_move rfl rfl rfl)) ?_
        refine dr_put (d := 50) (v := .d (.fl (.int .i64 (i : Int)))) rfl (oy rfl rfl rfl h3 (op_move rfl rfl rfl)) ?_
        refine dr_put (d := 51) (v := .el ((eRec ((ix (la ++ lb) i))))) rfl (oy rfl rfl rfl h3 (s_index rfl Try.underlying23 ti37 rfl rfl (by omega) (row_at (by omega)) rfl)) ?_
        refine dr_put (d := 52) (v := .el ((List.drop 1 ((eRec ((ix (la ++ lb) i))))))) rfl (oy rfl rfl rfl h3 (of_eff (s_field_el rfl Try.underlying37 rfl ti9 rfl rfl rfl) rfl)) ?_
        refine dr_put (d := 53) (v := .d (.fl (.string (((ix (la ++ lb) i)).key)))) rfl (oy rfl rfl rfl h3 (op_load_el rfl Try.underlying9 rfl rfl rfl rfl)) ?_
        refine dr_put (d := 54) (v := .d (.fl (.bool ((sEq ((ix ((srtS (fk (la ++ lb) i))) j)) (((ix (la ++ lb) i)).key)))))) rfl (oy rfl rfl rfl h3 (op_bin rfl rfl rfl (b_seq _ _ _) rfl)) ?_
        refine dr_put (d := 55) (v := .d (.fl (.bool ((sEq ((ix ((srtS (fk (la ++ lb) i))) j)) (((ix (la ++ lb) i)).key)))))) rfl (og rfl (op_pick rfl rfl (by rw [h3]; rfl) rfl)) ?_
        refine dr_done rfl (sepB_of [0, 0, 2, 7, 15, 31, 31, 127, 255, 31, 31, 1567, 3615, 7711, 16383, 32767] (by kernel_rfl)) (by kernel_rfl) ?_
        refine a_cond rfl (fun h7 => ?_) (fun h7 => ?_)
        · skip
          refine a_exit ?_
          show A _ _ _ _ _ _ _
          refine a_region ?_
          refine rg_put (d := 20) (v := .d (.fl (.int .i64 (i : Int)))) rfl (og rfl (op_move rfl rfl rfl)) ?_
          refine rg_put (d := 21) (v := .d (.fl (.int .i64 (((i : Int) + 1))))) rfl (og rfl (op_bin rfl rfl rfl (fun x y w => b_add64 _ _ _ x y w (by omega)) rfl)) ?_
          refine rg_put (d := 7) (v := .d (.fl (.int .i64 (((i : Int) + 1))))) rfl (og rfl (op_assign rfl rfl rfl)) ?_
          refine rg_done rfl ?_
          have hst : (srtS (fk (la ++ lb) i)) = srtS (fk (la ++ lb) (i + 1)) := ins_1 (by omega) h7
          show ∃ i, _ ∧ _ ∧ Imp _ _ _ _ _
          refine ⟨i + 1, (by omega), by omega, imp_forget rfl ⟨rfl, rfl, rfl, rfl, (ci (by omega)), (cd (congrArg (fun z => DV.sl 1 (List.map rS z)) hst)), trivial⟩ trivial⟩
        · skip
          refine a_skip ?_
          show A _ _ _ _ _ _ _
          refine a_rseq ?_
          refine rg_nam (d := 56) (v := .ow 109) (m := 109) (nw := [(109, .tr 9 1 (tD rS []))]) rfl (og rfl (of_eff (op_slice0 109 rfl Try.underlying48 ti9 rfl) rfl)) rfl ?_
          refine rg_put (d := 9) (v := .ow 109) rfl (og rfl (op_assign rfl rfl rfl)) ?_
          refine rg_done rfl ?_
          refine a_rseq ?_
          refine rg_put (d := 57) (v := .ow 109) rfl (og rfl (op_move rfl rfl rfl)) ?_
          refine rg_put (d := 58) (v := .d (.sl 1 (List.map rS ((srtS (fk (la ++ lb) i)))))) rfl (og rfl (op_move rfl rfl rfl)) ?_
          refine rg_put (d := 59) (v := .d (.fl (.int .i64 (j : Int)))) rfl (og rfl (op_move rfl rfl rfl)) ?_
          refine rg_put (d := 60) (v := .d (.sl 1 (List.map rS (((((srtS (fk (la ++ lb) i))).drop 0).take (j - 0)))))) rfl (og rfl (s_slice rfl Try.underlying48 ti9 rfl (.no _) (.so (n := j) _ rfl (by omega)) (by omega) (by omega) rfl)) ?_
          refine rg_nam (d := 61) (v := .ow 110) (m := 110) (nw := [(110, .tr 9 1 (tD rS (([] ++ ((((srtS (fk (la ++ lb) i))).drop 0).take (j - 0)))))), (109, .no)]) rfl (og rfl (of_eff (s_append_td 110 rfl Try.underlying48 ti9 rfl rfl rfl rfl rfl (.d _) (by simp only [List.length_append, List.length_cons, List.length_nil, List.length_take, List.length_drop]; omega) rfl) rfl)) rfl ?_
          refine rg_put (d := 9) (v := .ow 110) rfl (og rfl (op_assign rfl rfl rfl)) ?_
          refine rg_done rfl ?_
          refine a_rseq ?_
          refine rg_put (d := 62) (v := .ow 110) rfl (og rfl (op_move rfl rfl rfl)) ?_
          refine rg_put (d := 63) (v := .d (.sl 5 (List.map eRec (la ++ lb)))) rfl (og rfl (op_move rfl rfl rfl)) ?_
          refine rg_put (d := 64) (v := .d (.fl (.int .i64 (i : Int)))) rfl (og rfl (op_move rfl rfl rfl)) ?_
          refine rg_put (d := 65) (v := .el ((eRec ((ix (la ++ lb) i))))) rfl (og rfl (s_index rfl Try.underlying23 ti37 rfl rfl (by omega) (row_at (by omega)) rfl)) ?_
          refine rg_put (d := 66) (v := .el ((List.drop 1 ((eRec ((ix (la ++ lb) i))))))) rfl (og rfl (of_eff (s_field_el rfl Try.underlying37 rfl ti9 rfl rfl rfl) rfl)) ?_
          refine rg_put (d := 67) (v := .d (.fl (.string (((ix (la ++ lb) i)).key)))) rfl (og rfl (op_load_el rfl Try.underlying9 rfl rfl rfl rfl)) ?_
          refine rg_put (d := 68) (v := .d (.sl 1 (List.map rS [((ix (la ++ lb) i)).key]))) rfl (og rfl (of_eff (op_slices rfl Try.underlying48 ti9 rfl rfl rfl (by kernel_rfl) (xs := [.fl (.string (((ix (la ++ lb) i)).key))]) rfl rfl (.cons rfl rfl (.d _) rfl rfl rfl .nil) rfl) rfl)) ?_
          refine rg_nam (d := 69) (v := .ow 111) (m := 111) (nw := [(111, .tr 9 1 (tD rS ((([] ++ ((((srtS (fk (la ++ lb) i))).drop 0).take (j - 0))) ++ [((ix (la ++ lb) i)).key])))), (110, .no)]) rfl (og rfl (of_eff (s_append_td 111 rfl Try.underlying48 ti9 rfl rfl rfl rfl rfl (.d _) (by simp only [List.length_append, List.length_cons, List.length_nil, List.length_take, List.length_drop]; omega) rfl) rfl)) rfl ?_
          refine rg_put (d := 9) (v := .ow 111) rfl (og rfl (op_assign rfl rfl rfl)) ?_
          refine rg_done rfl ?_
          refine a_rseq ?_
          refine rg_put (d := 70) (v := .ow 111) rfl (og rfl (op_move rfl rfl rfl)) ?_
          refine rg_put (d := 71) (v := .d (.sl 1 (List.map rS ((srtS (fk (la ++ lb) i)))))) rfl (og rfl (op_move rfl rfl rfl)) ?_
          refine rg_put (d := 72) (v := .d (.fl (.int .i64 (j : Int)))) rfl (og rfl (op_move rfl rfl rfl)) ?_
          refine rg_put (d := 73) (v := .d (.sl 1 (List.map rS ((((srtS (fk (la ++ lb) i))).drop j))))) rfl (og rfl (s_sliceTail rfl Try.underlying48 ti9 rfl (.so (n := j) _ rfl (by omega)) (by omega) rfl)) ?_
          refine rg_nam (d := 74) (v := .ow 112) (m := 112) (nw := [(112, .tr 9 1 (tD rS (((([] ++ ((((srtS (fk (la ++ lb) i))).drop 0).take (j - 0))) ++ [((ix (la ++ lb) i)).key]) ++ (((srtS (fk (la ++ lb) i))).drop j))))), (111, .no)]) rfl (og rfl (of_eff (s_append_td 112 rfl Try.underlying48 ti9 rfl rfl rfl rfl rfl (.d _) (by simp only [List.length_append, List.length_cons, List.length_nil, List.length_take, List.length_drop]; omega) rfl) rfl)) rfl ?_
          refine rg_put (d := 9) (v := .ow 112) rfl (og rfl (op_assign rfl rfl rfl)) ?_
          refine rg_done rfl ?_
          refine a_region ?_
          refine rg_put (d := 75) (v := .ow 112) rfl (og rfl (op_move rfl rfl rfl)) ?_
          refine rg_put (d := 5) (v := .ow 112) rfl (og rfl (op_assign rfl rfl rfl)) ?_
          refine rg_done rfl ?_
          show A _ _ _ _ _ _ _
          refine a_region ?_
          rw [show ((([] ++ ((((srtS (fk (la ++ lb) i))).drop 0).take (j - 0))) ++ [((ix (la ++ lb) i)).key]) ++ (((srtS (fk (la ++ lb) i))).drop j)) = (srtS (fk (la ++ lb) (i + 1))) from (show ((([] ++ ((((srtS (fk (la ++ lb) i))).drop 0).take (j - 0))) ++ [((ix (la ++ lb) i)).key]) ++ (((srtS (fk (la ++ lb) i))).drop j)) = srtS (fk (la ++ lb) (i + 1)) from ins_2 (by omega) hq (fun h => ⟨h6, h7⟩))]
          refine rg_imp (imp_leakT 5 112 rfl rfl) ?_
          refine rg_put (d := 20) (v := .d (.fl (.int .i64 (i : Int)))) rfl (og rfl (op_move rfl rfl rfl)) ?_
          refine rg_put (d := 21) (v := .d (.fl (.int .i64 (((i : Int) + 1))))) rfl (og rfl (op_bin rfl rfl rfl (fun x y w => b_add64 _ _ _ x y w (by omega)) rfl)) ?_
          refine rg_put (d := 7) (v := .d (.fl (.int .i64 (((i : Int) + 1))))) rfl (og rfl (op_assign rfl rfl rfl)) ?_
          refine rg_done rfl ?_
          have hst : (srtS (fk (la ++ lb) (i + 1))) = srtS (fk (la ++ lb) (i + 1)) := rfl
          show ∃ i, _ ∧ _ ∧ Imp _ _ _ _ _
          refine ⟨i + 1, (by omega), by omega, imp_forget rfl ⟨rfl, rfl, rfl, rfl, (ci (by omega)), (cd (congrArg (fun z => DV.sl 1 (List.map rS z)) hst)), trivial⟩ trivial⟩
  · skip
    have h8 := f_dec h1
    refine a_exit ?_
    show A _ _ _ _ _ _ _
    refine a_rseq ?_
    refine rg_put (d := 76) (v := .d (.sl 1 (List.map rS ((srtS (fk (la ++ lb) i)))))) rfl (og rfl (op_move rfl rfl rfl)) ?_
    refine rg_put (d := 4) (v := .d (.sl 1 (List.map rS ((srtS (fk (la ++ lb) i)))))) rfl (og rfl (op_assign rfl rfl rfl)) ?_
    refine rg_done rfl ?_
    refine a_ret ?_
    show ∃ ds, ResL _ _ _ ds ∧ RV.of ds = _
    refine ⟨[.sl 1 (List.map rS ((srtS (fk (la ++ lb) i))))], (.cons (.tmp rfl (.d _)) .nil), ?_⟩
    rw [show i = (la ++ lb).length by omega]; rfl
set_option maxHeartbeats 4000000 in
set_option maxRecDepth 100000 in
theorem difR (a b : Ptn) (gl1 : a.ours.length ≤ 200) (gl2 : b.theirs.length ≤ 200) (o1 : okR a.ours) (o2 : okR b.theirs) (z1 : ∀ r ∈ a.ours, r.key.size ≤ 20) (z2 : ∀ r ∈ b.theirs, r.key.size ≤ 20) : Ctr Try.prog 7 [.ag (ePt a), .ag (ePt b)] (.d (.sl 3 (List.map eDfr (dfL a.ours b.theirs)))) := by
  refine ctr (n := 50) (rs := #[.tmp 4]) (L := [(0, .d (.ag (ePt a))), (1, .d (.ag (ePt b)))]) Try.func7 rfl rfl rfl rfl rfl (fun w0 U0 => ?_)
  refine a_rseq ?_
  refine rg_nam (d := 2) (v := .pt 101 0) (m := 101) (nw := [(101, .bx 25 (ePt a))]) rfl (og rfl (of_eff (op_box 101 rfl rfl rfl rfl) rfl)) rfl ?_
  refine rg_nam (d := 3) (v := .pt 102 0) (m := 102) (nw := [(102, .bx 25 (ePt b))]) rfl (og rfl (of_eff (op_box 102 rfl rfl rfl rfl) rfl)) rfl ?_
  refine rg_put (d := 4) (v := .d (.fl (.slice none 0 0))) rfl (og rfl (op_assign rfl rfl rfl)) ?_
  refine rg_done rfl ?_
  refine a_rseq ?_
  refine rg_put (d := 10) (v := .pt 101 4) rfl (og rfl (of_eff (s_field_pt rfl Try.underlying25 rfl ti23 rfl rfl rfl) rfl)) ?_
  refine rg_put (d := 11) (v := .d (.sl 5 (List.map eRec a.ours))) rfl (og rfl (op_load_pt rfl Try.underlying23 rfl rfl rfl rfl rfl)) ?_
  refine rg_put (d := 12) (v := .pt 102 5) rfl (og rfl (of_eff (s_field_pt rfl Try.underlying25 rfl ti23 rfl rfl rfl) rfl)) ?_
  refine rg_put (d := 13) (v := .d (.sl 5 (List.map eRec b.theirs))) rfl (og rfl (op_load_pt rfl Try.underlying23 rfl rfl rfl rfl rfl)) ?_
  refine rg_put (d := 14) (v := .d (.sl 1 (List.map rS (kAll a.ours b.theirs)))) rfl (og rfl (op_call rfl Try.func21 nm21 rfl (.cons rfl (.d _) (.cons rfl (.d _) .nil)) (amtC a.ours b.theirs gl1 gl2) rfl)) ?_
  refine rg_put (d := 5) (v := .d (.sl 1 (List.map rS (kAll a.ours b.theirs)))) rfl (og rfl (op_assign rfl rfl rfl)) ?_
  refine rg_done rfl ?_
  refine a_rseq ?_
  refine rg_nam (d := 15) (v := .ow 103) (m := 103) (nw := [(103, .tr 31 3 (tD eDfr []))]) rfl (og rfl (of_eff (op_slice0 103 rfl Try.underlying28 ti31 rfl) rfl)) rfl ?_
  refine rg_put (d := 6) (v := .ow 103) rfl (og rfl (op_assign rfl rfl rfl)) ?_
  refine rg_done rfl ?_
  refine a_seq ?_
  refine a_rseq ?_
  have hkl := kAll_len a.ours b.theirs
  refine rg_put (d := 7) (v := .d (.fl (.int .i64 0))) rfl (og rfl (op_assign rfl rfl rfl)) ?_
  refine rg_done rfl ?_
  refine a_block ?_
  refine a_loop (ι := Nat) (fun n => SS [(0, .d (.ag (ePt a))), (1, .d (.ag (ePt b))), (2, .pt 101 0), (3, .pt 102 0), (4, .d (.fl (.slice none 0 0))), (5, .d (.sl 1 (List.map rS (kAll a.ours b.theirs)))), (7, .d (.fl (.int .i64 (n : Int)))), (6, .ow 103)] [(101, .bx 25 (ePt a)), (102, .bx 25 (ePt b)), (103, .tr 31 3 (tD eDfr (dfO a.ours b.theirs n)))]) (fun n => n ≤ (kAll a.ours b.theirs).length) (fun n => (kAll a.ours b.theirs).length - n) 0 (by omega) (imp_forget rfl ⟨rfl, rfl, rfl, rfl, rfl, rfl, rfl, rfl, trivial⟩ ⟨rfl, rfl, rfl, trivial⟩) (fun n hok => ?_)
  have hn := hok
  have hdl := dfO_len a.ours b.theirs n
  refine a_seq ?_
  refine a_rseq ?_
  refine rg_put (d := 16) (v := .d (.fl (.int .i64 (n : Int)))) rfl (og rfl (op_move rfl rfl rfl)) ?_
  refine rg_put (d := 17) (v := .d (.sl 1 (List.map rS (kAll a.ours b.theirs)))) rfl (og rfl (op_move rfl rfl rfl)) ?_
  refine rg_put (d := 18) (v := .d (.fl (.int .i64 (((kAll a.ours b.theirs).length : Int))))) rfl (og rfl (s_len rfl Try.underlying48 rfl rfl)) ?_
  refine rg_put (d := 19) (v := .d (.fl (.bool ((decide ((n : Int) < ((kAll a.ours b.theirs).length : Int))))))) rfl (og rfl (op_bin rfl rfl rfl (b_lss _ _ _ _) rfl)) ?_
  refine rg_done rfl ?_
  refine a_cond rfl (fun h1 => ?_) (fun h1 => ?_)
  · skip
    have h2 := t_dec h1
    refine a_skip ?_
    show A _ _ _ _ _ _ _
    refine a_seq ?_
    refine a_block ?_
    refine a_dseq (by kernel_rfl) ?_
    refine dr_put (d := 22) (v := .pt 101 4) rfl (og rfl (of_eff (s_field_pt rfl Try.underlying25 rfl ti23 rfl rfl rfl) rfl)) ?_
    refine dr_put (d := 23) (v := .d (.sl 5 (List.map eRec a.ours))) rfl (og rfl (op_load_pt rfl Try.underlying23 rfl rfl rfl rfl rfl)) ?_
    refine dr_put (d := 24) (v := .d (.sl 1 (List.map rS (kAll a.ours b.theirs)))) rfl (og rfl (op_move rfl rfl rfl)) ?_
    refine dr_put (d := 25) (v := .d (.fl (.int .i64 (n : Int)))) rfl (og rfl (op_move rfl rfl rfl)) ?_
    refine dr_put (d := 26) (v := .el ((rS ((ix (kAll a.ours b.theirs) n))))) rfl (og rfl (s_index rfl Try.underlying48 ti9 rfl rfl (by omega) (row_at (by omega)) rfl)) ?_
    refine dr_put (d := 27) (v := .d (.fl (.string ((ix (kAll a.ours b.theirs) n))))) rfl (og rfl (op_load_el rfl Try.underlying9 rfl rfl rfl rfl)) ?_
    refine dr_put (d := 28) (v := .d (.fl (.int .i64 ((am a.ours ((ix (kAll a.ours b.theirs) n)) a.ours.length))))) rfl (og rfl (op_call rfl Try.func22 nm22 rfl (.cons rfl (.d _) (.cons rfl (.d _) .nil)) (amoR a.ours ((ix (kAll a.ours b.theirs) n)) gl1 o1) rfl)) ?_
    refine dr_put (d := 29) (v := .pt 102 5) rfl (og rfl (of_eff (s_field_pt rfl Try.underlying25 rfl ti23 rfl rfl rfl) rfl)) ?_
    refine dr_put (d := 30) (v := .d (.sl 5 (List.map eRec b.theirs))) rfl (og rfl (op_load_pt rfl Try.underlying23 rfl rfl rfl rfl rfl)) ?_
    refine dr_put (d := 31) (v := .d (.sl 1 (List.map rS (kAll a.ours b.theirs)))) rfl (og rfl (op_move rfl rfl rfl)) ?_
    refine dr_put (d := 32) (v := .d (.fl (.int .i64 (n : Int)))) rfl (og rfl (op_move rfl rfl rfl)) ?_
    refine dr_put (d := 33) (v := .el ((rS ((ix (kAll a.ours b.theirs) n))))) rfl (og rfl (s_index rfl Try.underlying48 ti9 rfl rfl (by omega) (row_at (by omega)) rfl)) ?_
    refine dr_put (d := 34) (v := .d (.fl (.string ((ix (kAll a.ours b.theirs) n))))) rfl (og rfl (op_load_el rfl Try.underlying9 rfl rfl rfl rfl)) ?_
    refine dr_put (d := 35) (v := .d (.fl (.int .i64 ((am b.theirs ((ix (kAll a.ours b.theirs) n)) b.theirs.length))))) rfl (og rfl (op_call rfl Try.func22 nm22 rfl (.cons rfl (.d _) (.cons rfl (.d _) .nil)) (amoR b.theirs ((ix (kAll a.ours b.theirs) n)) gl2 o2) rfl)) ?_
    refine dr_put (d := 8) (v := .d (.fl (.int .i64 ((am a.ours ((ix (kAll a.ours b.theirs) n)) a.ours.length))))) rfl (og rfl (op_assign rfl rfl rfl)) ?_
    refine dr_put (d := 9) (v := .d (.fl (.int .i64 ((am b.theirs ((ix (kAll a.ours b.theirs) n)) b.theirs.length))))) rfl (og rfl (op_assign rfl rfl rfl)) ?_
    refine dr_done rfl (sepB_of [0, 1, 0, 0, 12, 28, 63, 0, 128, 0, 0, 1536, 3584, 8191, 16383, 32767] (by kernel_rfl)) (by kernel_rfl) ?_
    refine a_rseq ?_
    refine rg_put (d := 36) (v := .d (.fl (.int .i64 ((am a.ours ((ix (kAll a.ours b.theirs) n)) a.ours.length))))) rfl (og rfl (op_move rfl rfl rfl)) ?_
    refine rg_put (d := 37) (v := .d (.fl (.int .i64 ((am b.theirs ((ix (kAll a.ours b.theirs) n)) b.theirs.length))))) rfl (og rfl (op_move rfl rfl rfl)) ?_
    refine rg_put (d := 38) (v := .d (.fl (.bool (((am a.ours ((ix (kAll a.ours b.theirs) n)) a.ours.length) != (am b.theirs ((ix (kAll a.ours b.theirs) n)) b.theirs.length)))))) rfl (og rfl (op_bin rfl rfl rfl (b_neq _ _ _ _) rfl)) ?_
    refine rg_done rfl ?_
    refine a_cond rfl (fun h3 => ?_) (fun h3 => ?_)
    · skip
      have h4 := t_bne h3
      refine a_region ?_
      refine rg_put (d := 39) (v := .ow 103) rfl (og rfl (op_move rfl rfl rfl)) ?_
      refine rg_put (d := 40) (v := .d (.sl 1 (List.map rS (kAll a.ours b.theirs)))) rfl (og rfl (op_move rfl rfl rfl)) ?_
      refine rg_put (d := 41) (v := .d (.fl (.int .i64 (n : Int)))) rfl (og rfl (op_move rfl rfl rfl)) ?_
      refine rg_put (d := 42) (v := .el ((rS ((ix (kAll a.ours b.theirs) n))))) rfl (og rfl (s_index rfl Try.underlying48 ti9 rfl rfl (by omega) (row_at (by omega)) rfl)) ?_
      refine rg_put (d := 43) (v := .d (.fl (.string ((ix (kAll a.ours b.theirs) n))))) rfl (og rfl (op_load_el rfl Try.underlying9 rfl rfl rfl rfl)) ?_
      refine rg_put (d := 44) (v := .d (.fl (.int .i64 ((am a.ours ((ix (kAll a.ours b.theirs) n)) a.ours.length))))) rfl (og rfl (op_move rfl rfl rfl)) ?_
      refine rg_put (d := 45) (v := .d (.fl (.int .i64 ((am b.theirs ((ix (kAll a.ours b.theirs) n)) b.theirs.length))))) rfl (og rfl (op_move rfl rfl rfl)) ?_
      refine rg_put (d := 46) (v := .d (.ag (eDfr ((Dfr.mk ((ix (kAll a.ours b.theirs) n)) ((am a.ours ((ix (kAll a.ours b.theirs) n)) a.ours.length)) ((am b.theirs ((ix (kAll a.ours b.theirs) n)) b.theirs.length))))))) rfl (og rfl (of_eff (op_build rfl Try.underlying31 ti31 rfl (by kernel_rfl) (by kernel_rfl) (pl := #[(0, 1), (1, 1), (2, 1)]) (by kernel_rfl) (.cons rfl rfl (.d _) rfl rfl rfl (.cons rfl rfl (.d _) rfl rfl rfl (.cons rfl rfl (.d _) rfl rfl rfl .nil))) rfl) rfl)) ?_
      refine rg_put (d := 47) (v := .d (.sl 3 (List.map eDfr [(Dfr.mk ((ix (kAll a.ours b.theirs) n)) ((am a.ours ((ix (kAll a.ours b.theirs) n)) a.ours.length)) ((am b.theirs ((ix (kAll a.ours b.theirs) n)) b.theirs.length)))]))) rfl (og rfl (of_eff (op_slices rfl Try.underlying28 ti31 rfl rfl rfl (by kernel_rfl) (xs := [.ag (eDfr ((Dfr.mk ((ix (kAll a.ours b.theirs) n)) ((am a.ours ((ix (kAll a.ours b.theirs) n)) a.ours.length)) ((am b.theirs ((ix (kAll a.ours b.theirs) n)) b.theirs.length)))))]) rfl rfl (.cons rfl rfl (.d _) rfl rfl rfl .nil) rfl) rfl)) ?_
      refine rg_nam (d := 48) (v := .ow 104) (m := 104) (nw := [(104, .tr 31 3 (tD eDfr (((dfO a.ours b.theirs n) ++ [(Dfr.mk ((ix (kAll a.ours b.theirs) n)) ((am a.ours ((ix (kAll a.ours b.theirs) n)) a.ours.length)) ((am b.theirs ((ix (kAll a.ours b.theirs) n)) b.theirs.length)))])))), (103, .no)]) rfl (og rfl (of_eff (s_append_td 104 rfl Try.underlying28 ti31 rfl rfl rfl rfl rfl (.d _) (by simp only [List.length_append, List.length_cons, List.length_nil]; omega) rfl) rfl)) rfl ?_
      refine rg_put (d := 6) (v := .ow 104) rfl (og rfl (op_assign rfl rfl rfl)) ?_
      refine rg_done rfl ?_
      show A _ _ _ _ _ _ _
      refine a_region ?_
      refine rg_put (d := 20) (v := .d (.fl (.int .i64 (n : Int)))) rfl (og rfl (op_move rfl rfl rfl)) ?_
      refine rg_put (d := 21) (v := .d (.fl (.int .i64 (((n : Int) + 1))))) rfl (og rfl (op_bin rfl rfl rfl (fun x y w => b_add64 _ _ _ x y w (by omega)) rfl)) ?_
      refine rg_put (d := 7) (v := .d (.fl (.int .i64 (((n : Int) + 1))))) rfl (og rfl (op_assign rfl rfl rfl)) ?_
      refine rg_done rfl ?_
      show ∃ i, _ ∧ _ ∧ Imp _ _ _ _ _
      refine ⟨n + 1, (by omega), by omega, imp_ren (fun m => bif Nat.beq m 103 then 104 else m) rfl ⟨rfl, rfl, rfl, rfl, rfl, rfl, (ci (by omega)), rfl, trivial⟩ ⟨rfl, rfl, (congrArg (fun z => Ob.tr 31 3 (tD eDfr z)) (dfO_y (by omega) h3)), trivial⟩⟩
    · skip
      have h5 := f_bne h3
      refine a_skip ?_
      show A _ _ _ _ _ _ _
      refine a_region ?_
      refine rg_put (d := 20) (v := .d (.fl (.int .i64 (n : Int)))) rfl (og rfl (op_move rfl rfl rfl)) ?_
      refine rg_put (d := 21) (v := .d (.fl (.int .i64 (((n : Int) + 1))))) rfl (og rfl (op_bin rfl rfl rfl (fun x y w => b_add64 _ _ _ x y w (by omega)) rfl)) ?_
      refine rg_put (d := 7) (v := .d (.fl (.int .i64 (((n : Int) + 1))))) rfl (og rfl (op_assign rfl rfl rfl)) ?_
      refine rg_done rfl ?_
      show ∃ i, _ ∧ _ ∧ Imp _ _ _ _ _
      refine ⟨n + 1, (by omega), by omega, imp_forget rfl ⟨rfl, rfl, rfl, rfl, rfl, rfl, (ci (by omega)), rfl, trivial⟩ ⟨rfl, rfl, (congrArg (fun z => Ob.tr 31 3 (tD eDfr z)) (dfO_n (by omega) h3)), trivial⟩⟩
  · skip
    have h6 := f_dec h1
    refine a_exit ?_
    show A _ _ _ _ _ _ _
    refine a_rseq ?_
    refine rg_put (d := 49) (v := .ow 103) rfl (og rfl (op_move rfl rfl rfl)) ?_
    refine rg_put (d := 4) (v := .ow 103) rfl (og rfl (op_assign rfl rfl rfl)) ?_
    refine rg_done rfl ?_
    refine a_imp (imp_leakT 4 103 rfl rfl) ?_
    refine a_ret ?_
    show ∃ ds, ResL _ _ _ ds ∧ RV.of ds = _
    refine ⟨[.sl 3 (List.map eDfr (dfO a.ours b.theirs n))], (.cons (.tmp rfl (.d _)) .nil), ?_⟩
    rw [show n = (kAll a.ours b.theirs).length by omega]; rfl
set_option maxHeartbeats 4000000 in
set_option maxRecDepth 100000 in
theorem agC (a b : Ptn) (ha : OkP a) (hb : OkP b) : Ctr Try.prog 11 [.ag (ePt a), .ag (ePt b)] (.d (.fl (.bool (agB a b)))) := by
  refine ctr (n := 17) (rs := #[.tmp 4]) (L := [(0, .d (.ag (ePt a))), (1, .d (.ag (ePt b)))]) Try.func11 rfl rfl rfl rfl rfl (fun w0 U0 => ?_)
  refine a_rseq ?_
  refine rg_nam (d := 2) (v := .pt 101 0) (m := 101) (nw := [(101, .bx 25 (ePt a))]) rfl (og rfl (of_eff (op_box 101 rfl rfl rfl rfl) rfl)) rfl ?_
  refine rg_nam (d := 3) (v := .pt 102 0) (m := 102) (nw := [(102, .bx 25 (ePt b))]) rfl (og rfl (of_eff (op_box 102 rfl rfl rfl rfl) rfl)) rfl ?_
  refine rg_put (d := 4) (v := .d (.fl (.bool false))) rfl (og rfl (op_assign rfl rfl rfl)) ?_
  refine rg_done rfl ?_
  refine a_rseq ?_
  refine rg_put (d := 5) (v := .d (.ag (ePt a))) rfl (og rfl (of_eff (s_load_pts rfl Try.underlying25 rfl ti25 rfl rfl rfl rfl) rfl)) ?_
  refine rg_put (d := 6) (v := .d (.ag (ePt b))) rfl (og rfl (of_eff (s_load_pts rfl Try.underlying25 rfl ti25 rfl rfl rfl rfl) rfl)) ?_
  refine rg_put (d := 7) (v := .d (.sl 3 (List.map eDfr (dfL a.ours b.theirs)))) rfl (og rfl (op_call rfl Try.func6 nm6 rfl (.cons rfl (.d _) (.cons rfl (.d _) .nil)) (difC a b (by have := ha.lo; omega) (by have := hb.lt; omega) ha.oo hb.ot ha.zo hb.zt) rfl)) ?_
  refine rg_put (d := 8) (v := .d (.fl (.int .i64 (((dfL a.ours b.theirs).length : Int))))) rfl (og rfl (s_len rfl Try.underlying28 rfl rfl)) ?_
  refine rg_put (d := 9) (v := .d (.fl (.bool ((((dfL a.ours b.theirs).length : Int) == 0))))) rfl (og rfl (op_bin rfl rfl rfl (b_eql _ _ _ _) rfl)) ?_
  refine rg_put (d := 10) (v := .d (.fl (.bool ((((dfL a.ours b.theirs).length : Int) == 0))))) rfl (og rfl (op_move rfl rfl rfl)) ?_
  rcases fot ((((dfL a.ours b.theirs).length : Int) == 0)) with h1 | h1
  · skip
    have h2 := f_beq h1
    refine rg_put (d := 11) (v := .d (.fl undef)) rfl (on rfl rfl rfl h1) ?_
    refine rg_put (d := 12) (v := .d (.fl undef)) rfl (on rfl rfl rfl h1) ?_
    refine rg_put (d := 13) (v := .d (.fl undef)) rfl (on rfl rfl rfl h1) ?_
    refine rg_put (d := 14) (v := .d (.fl undef)) rfl (on rfl rfl rfl h1) ?_
    refine rg_put (d := 15) (v := .d (.fl undef)) rfl (on rfl rfl rfl h1) ?_
    refine rg_put (d := 16) (v := .d (.fl (.bool false))) rfl (og rfl (op_pick rfl rfl (by rw [h1]; rfl) rfl)) ?_
    refine rg_put (d := 4) (v := .d (.fl (.bool false))) rfl (og rfl (op_assign rfl rfl rfl)) ?_
    refine rg_done rfl ?_
    refine a_ret ?_
    show ∃ ds, ResL _ _ _ ds ∧ RV.of ds = _
    refine ⟨[.fl (.bool false)], (.cons (.tmp rfl (.d _)) .nil), ?_⟩
    first
      | (have hu : agB a b = false := by
          unfold agB; simp only [h1, Bool.true_or, Bool.false_or, Bool.or_true, Bool.or_false, Bool.not_true, Bool.not_false, cond_true, cond_false, Bool.true_and, Bool.false_and, Bool.and_true, Bool.and_false] <;> rfl
         rw [hu]; rfl)
      | (exfalso; omega)
  · skip
    have h3 := t_beq h1
    refine rg_put (d := 11) (v := .d (.ag (ePt b))) rfl (oy rfl rfl rfl h1 (of_eff (s_load_pts rfl Try.underlying25 rfl ti25 rfl rfl rfl rfl) rfl)) ?_
    refine rg_put (d := 12) (v := .d (.ag (ePt a))) rfl (oy rfl rfl rfl h1 (of_eff (s_load_pts rfl Try.underlying25 rfl ti25 rfl rfl rfl rfl) rfl)) ?_
    refine rg_put (d := 13) (v := .d (.sl 3 (List.map eDfr (dfL b.ours a.theirs)))) rfl (oy rfl rfl rfl h1 (op_call rfl Try.func6 nm6 rfl (.cons rfl (.d _) (.cons rfl (.d _) .nil)) (difC b a (by have := hb.lo; omega) (by have := ha.lt; omega) hb.oo ha.ot hb.zo ha.zt) rfl)) ?_
    refine rg_put (d := 14) (v := .d (.fl (.int .i64 (((dfL b.ours a.theirs).length : Int))))) rfl (oy rfl rfl rfl h1 (s_len rfl Try.underlying28 rfl rfl)) ?_
    refine rg_put (d := 15) (v := .d (.fl (.bool ((((dfL b.ours a.theirs).length : Int) == 0))))) rfl (oy rfl rfl rfl h1 (op_bin rfl rfl rfl (b_eql _ _ _ _) rfl)) ?_
    refine rg_put (d := 16) (v := .d (.fl (.bool ((((dfL b.ours a.theirs).length : Int) == 0))))) rfl (og rfl (op_pick rfl rfl (by rw [h1]; rfl) rfl)) ?_
    refine rg_put (d := 4) (v := .d (.fl (.bool ((((dfL b.ours a.theirs).length : Int) == 0))))) rfl (og rfl (op_assign rfl rfl rfl)) ?_
    refine rg_done rfl ?_
    refine a_ret ?_
    show ∃ ds, ResL _ _ _ ds ∧ RV.of ds = _
    refine ⟨[.fl (.bool ((((dfL b.ours a.theirs).length : Int) == 0)))], (.cons (.tmp rfl (.d _)) .nil), ?_⟩
    first
      | (have hu : agB a b = (((dfL b.ours a.theirs).length : Int) == 0) := by
          unfold agB; simp only [h1, Bool.true_or, Bool.false_or, Bool.or_true, Bool.or_false, Bool.not_true, Bool.not_false, cond_true, cond_false, Bool.true_and, Bool.false_and, Bool.and_true, Bool.and_false] <;> rfl
         rw [hu]; rfl)
      | (exfalso; omega)
set_option maxHeartbeats 4000000 in
set_option maxRecDepth 100000 in
theorem agR (a b : Ptn) (ha : OkP a) (hb : OkP b) : Ctr Try.prog 12 [.ag (ePt a), .ag (ePt b)] (.d (.fl (.bool (agB a b)))) := by
  refine ctr (n := 17) (rs := #[.tmp 4]) (L := [(0, .d (.ag (ePt a))), (1, .d (.ag (ePt b)))]) Try.func12 rfl rfl rfl rfl rfl (fun w0 U0 => ?_)
  refine a_rseq ?_
  refine rg_nam (d := 2) (v := .pt 101 0) (m := 101) (nw := [(101, .bx 25 (ePt a))]) rfl (og rfl (of_eff (op_box 101 rfl rfl rfl rfl) rfl)) rfl ?_
  refine rg_nam (d := 3) (v := .pt 102 0) (m := 102) (nw := [(102, .bx 25 (ePt b))]) rfl (og rfl (of_eff (op_box 102 rfl rfl rfl rfl) rfl)) rfl ?_
  refine rg_put (d := 4) (v := .d (.fl (.bool false))) rfl (og rfl (op_assign rfl rfl rfl)) ?_
  refine rg_done rfl ?_
  refine a_rseq ?_
  refine rg_put (d := 5) (v := .d (.ag (ePt a))) rfl (og rfl (of_eff (s_load_pts rfl Try.underlying25 rfl ti25 rfl rfl rfl rfl) rfl)) ?_
  refine rg_put (d := 6) (v := .d (.ag (ePt b))) rfl (og rfl (of_eff (s_load_pts rfl Try.underlying25 rfl ti25 rfl rfl rfl rfl) rfl)) ?_
  refine rg_put (d := 7) (v := .d (.sl 3 (List.map eDfr (dfL a.ours b.theirs)))) rfl (og rfl (op_call rfl Try.func7 nm7 rfl (.cons rfl (.d _) (.cons rfl (.d _) .nil)) (difR a b (by have := ha.lo; omega) (by have := hb.lt; omega) ha.oo hb.ot ha.zo hb.zt) rfl)) ?_
  refine rg_put (d := 8) (v := .d (.fl (.int .i64 (((dfL a.ours b.theirs).length : Int))))) rfl (og rfl (s_len rfl Try.underlying28 rfl rfl)) ?_
  refine rg_put (d := 9) (v := .d (.fl (.bool ((((dfL a.ours b.theirs).length : Int) == 0))))) rfl (og rfl (op_bin rfl rfl rfl (b_eql _ _ _ _) rfl)) ?_
  refine rg_put (d := 10) (v := .d (.fl (.bool ((((dfL a.ours b.theirs).length : Int) == 0))))) rfl (og rfl (op_move rfl rfl rfl)) ?_
  rcases fot ((((dfL a.ours b.theirs).length : Int) == 0)) with h1 | h1
  · skip
    have h2 := f_beq h1
    refine rg_put (d := 11) (v := .d (.fl undef)) rfl (on rfl rfl rfl h1) ?_
    refine rg_put (d := 12) (v := .d (.fl undef)) rfl (on rfl rfl rfl h1) ?_
    refine rg_put (d := 13) (v := .d (.fl undef)) rfl (on rfl rfl rfl h1) ?_
    refine rg_put (d := 14) (v := .d (.fl undef)) rfl (on rfl rfl rfl h1) ?_
    refine rg_put (d := 15) (v := .d (.fl undef)) rfl (on rfl rfl rfl h1) ?_
    refine rg_put (d := 16) (v := .d (.fl (.bool false))) rfl (og rfl (op_pick rfl rfl (by rw [h1]; rfl) rfl)) ?_
    refine rg_put (d := 4) (v := .d (.fl (.bool false))) rfl (og rfl (op_assign rfl rfl rfl)) ?_
    refine rg_done rfl ?_
    refine a_ret ?_
    show ∃ ds, ResL _ _ _ ds ∧ RV.of ds = _
    refine ⟨[.fl (.bool false)], (.cons (.tmp rfl (.d _)) .nil), ?_⟩
    first
      | (have hu : agB a b = false := by
          unfold agB; simp only [h1, Bool.true_or, Bool.false_or, Bool.or_true, Bool.or_false, Bool.not_true, Bool.not_false, cond_true, cond_false, Bool.true_and, Bool.false_and, Bool.and_true, Bool.and_false] <;> rfl
         rw [hu]; rfl)
      | (exfalso; omega)
  · skip
    have h3 := t_beq h1
    refine rg_put (d := 11) (v := .d (.ag (ePt b))) rfl (oy rfl rfl rfl h1 (of_eff (s_load_pts rfl Try.underlying25 rfl ti25 rfl rfl rfl rfl) rfl)) ?_
    refine rg_put (d := 12) (v := .d (.ag (ePt a))) rfl (oy rfl rfl rfl h1 (of_eff (s_load_pts rfl Try.underlying25 rfl ti25 rfl rfl rfl rfl) rfl)) ?_
    refine rg_put (d := 13) (v := .d (.sl 3 (List.map eDfr (dfL b.ours a.theirs)))) rfl (oy rfl rfl rfl h1 (op_call rfl Try.func7 nm7 rfl (.cons rfl (.d _) (.cons rfl (.d _) .nil)) (difR b a (by have := hb.lo; omega) (by have := ha.lt; omega) hb.oo ha.ot hb.zo ha.zt) rfl)) ?_
    refine rg_put (d := 14) (v := .d (.fl (.int .i64 (((dfL b.ours a.theirs).length : Int))))) rfl (oy rfl rfl rfl h1 (s_len rfl Try.underlying28 rfl rfl)) ?_
    refine rg_put (d := 15) (v := .d (.fl (.bool ((((dfL b.ours a.theirs).length : Int) == 0))))) rfl (oy rfl rfl rfl h1 (op_bin rfl rfl rfl (b_eql _ _ _ _) rfl)) ?_
    refine rg_put (d := 16) (v := .d (.fl (.bool ((((dfL b.ours a.theirs).length : Int) == 0))))) rfl (og rfl (op_pick rfl rfl (by rw [h1]; rfl) rfl)) ?_
    refine rg_put (d := 4) (v := .d (.fl (.bool ((((dfL b.ours a.theirs).length : Int) == 0))))) rfl (og rfl (op_assign rfl rfl rfl)) ?_
    refine rg_done rfl ?_
    refine a_ret ?_
    show ∃ ds, ResL _ _ _ ds ∧ RV.of ds = _
    refine ⟨[.fl (.bool ((((dfL b.ours a.theirs).length : Int) == 0)))], (.cons (.tmp rfl (.d _)) .nil), ?_⟩
    first
      | (have hu : agB a b = (((dfL b.ours a.theirs).length : Int) == 0) := by
          unfold agB; simp only [h1, Bool.true_or, Bool.false_or, Bool.or_true, Bool.or_false, Bool.not_true, Bool.not_false, cond_true, cond_false, Bool.true_and, Bool.false_and, Bool.and_true, Bool.and_false] <;> rfl
         rw [hu]; rfl)
      | (exfalso; omega)
set_option maxHeartbeats 4000000 in
set_option maxRecDepth 100000 in
theorem cor9 (l : List Dfr) (hl : l.length ≤ 100) : Ctr Try.prog 9 [.sl 3 (List.map eDfr l)] (.d (.sl 5 (List.map eRec (recs l)))) := by
  refine ctr (n := 31) (rs := #[.tmp 2]) (L := [(0, .d (.sl 3 (List.map eDfr l)))]) Try.func9 rfl rfl rfl rfl rfl (fun w0 U0 => ?_)
  refine a_rseq ?_
  refine rg_put (d := 2) (v := .d (.fl (.slice none 0 0))) rfl (og rfl (op_assign rfl rfl rfl)) ?_
  refine rg_done rfl ?_
  refine a_rseq ?_
  refine rg_put (d := 3) (v := .d (.fl (.slice none 0 0))) rfl (og rfl (op_assign rfl rfl rfl)) ?_
  refine rg_done rfl ?_
  refine a_seq ?_
  refine a_rseq ?_
  refine rg_put (d := 6) (v := .d (.sl 3 (List.map eDfr l))) rfl (og rfl (op_move rfl rfl rfl)) ?_
  refine rg_put (d := 7) (v := .d (.fl (.int .i64 (l.length : Int)))) rfl (og rfl (s_len rfl Try.underlying28 rfl rfl)) ?_
  refine rg_put (d := 8) (v := .d (.fl (.int .i64 0))) rfl (og rfl (op_move rfl rfl rfl)) ?_
  refine rg_done rfl ?_
  refine a_block ?_
  refine a_loop (ι := Nat) (fun k => SS [(0, .d (.sl 3 (List.map eDfr l))), (2, .d (.fl (.slice none 0 0))), (6, .d (.sl 3 (List.map eDfr l))), (7, .d (.fl (.int .i64 (l.length : Int)))), (8, .d (.fl (.int .i64 (k : Int)))), (3, .ow 700)] [(700, .tr 37 5 (tD eRec (rec l k)))]) (fun k => k ≤ l.length) (fun k => l.length - k) 0 (by omega) (Imp.trans (imp_nilT 3 700 37 5 rfl rfl) (imp_forget rfl ⟨rfl, rfl, rfl, rfl, (by first | rfl | exact ci (by omega) | exact ci (by simp) | exact cd (by simp) | simp), (by first | rfl | exact ci (by omega) | exact ci (by simp) | exact cd (by simp) | simp), trivial⟩ ⟨(by first | rfl | simp), trivial⟩)) (fun k hok => ?_)
  have hk := hok
  refine a_rseq ?_
  refine rg_put (d := 9) (v := .d (.fl (.bool ((decide ((k : Int) < (l.length : Int))))))) rfl (og rfl (op_bin rfl rfl rfl (b_lss _ _ _ _) rfl)) ?_
  refine rg_done rfl ?_
  refine a_seq ?_
  refine a_cond rfl (fun h1 => ?_) (fun h1 => ?_)
  · skip
    have h2 := t_dec h1
    refine a_skip ?_
    show A _ _ _ _ _ _ _
    refine a_seq ?_
    refine a_block ?_
    refine a_rseq ?_
    refine rg_put (d := 10) (v := .el ((eDfr (ix l k)))) rfl (og rfl (s_index rfl Try.underlying28 ti31 rfl rfl (by omega) (row_at (by omega)) rfl)) ?_
    refine rg_put (d := 11) (v := .d (.ag (eDfr (ix l k)))) rfl (og rfl (of_eff (s_load_els rfl Try.underlying31 rfl ti31 rfl rfl rfl) rfl)) ?_
    refine rg_nam (d := 5) (v := .pt 101 0) (m := 101) (nw := [(101, .bx 31 ([.fl (.string (⟨#[]⟩)), .fl (.int .i64 0), .fl (.int .i64 0)]))]) rfl (og rfl (of_eff (s_alloc 101 rfl ti31 (by kernel_rfl) rfl) rfl)) rfl ?_
    refine rg_sto (nw := [(101, .bx 31 ((eDfr (ix l k))))]) rfl (og rfl (of_eff (s_store rfl rfl ti31 rfl rfl rfl rfl rfl rfl) rfl)) ?_
    refine rg_done rfl ?_
    refine a_rseq ?_
    refine rg_put (d := 12) (v := .ow 700) rfl (og rfl (op_move rfl rfl rfl)) ?_
    refine rg_put (d := 13) (v := .pt 101 0) rfl (og rfl (of_eff (s_field_pt rfl Try.underlying31 rfl ti9 rfl rfl rfl) rfl)) ?_
    refine rg_put (d := 14) (v := .d (.fl (.string ((ix l k).key)))) rfl (og rfl (op_load_pt rfl Try.underlying9 rfl rfl rfl rfl rfl)) ?_
    refine rg_put (d := 15) (v := .d (.ag (eRec ((Rec.mk 3 ((ix l k).key) 0 0 0))))) rfl (og rfl (of_eff (op_build rfl Try.underlying37 ti37 rfl (by kernel_rfl) (by kernel_rfl) (pl := #[(0, 1), (1, 1), (2, 1), (3, 1), (4, 1)]) (by kernel_rfl) (.cons rfl rfl (.d _) rfl rfl rfl (.cons rfl rfl (.d _) rfl rfl rfl .nil)) rfl) rfl)) ?_
    refine rg_put (d := 16) (v := .d (.sl 5 (List.map eRec [(Rec.mk 3 ((ix l k).key) 0 0 0)]))) rfl (og rfl (of_eff (op_slices rfl Try.underlying23 ti37 rfl rfl rfl (by kernel_rfl) (xs := [.ag (eRec ((Rec.mk 3 ((ix l k).key) 0 0 0)))]) rfl rfl (.cons rfl rfl (.d _) rfl rfl rfl .nil) rfl) rfl)) ?_
    refine rg_nam (d := 17) (v := .ow 102) (m := 102) (nw := [(102, .tr 37 5 (tD eRec (((rec l k) ++ [(Rec.mk 3 ((ix l k).key) 0 0 0)])))), (700, .no)]) rfl (og rfl (of_eff (s_append_td 102 rfl Try.underlying23 ti37 rfl rfl rfl rfl rfl (.d _) (by simp only [List.length_append, List.length_cons, List.length_nil]; have := rec_len l k; omega) rfl) rfl)) rfl ?_
    refine rg_put (d := 3) (v := .ow 102) rfl (og rfl (op_assign rfl rfl rfl)) ?_
    refine rg_done rfl ?_
    refine a_rseq ?_
    refine rg_put (d := 18) (v := .pt 101 1) rfl (og rfl (of_eff (s_field_pt rfl Try.underlying31 rfl ti3 rfl rfl rfl) rfl)) ?_
    refine rg_put (d := 19) (v := .d (.fl (.int .i64 ((ix l k).ours)))) rfl (og rfl (op_load_pt rfl Try.underlying3 rfl rfl rfl rfl rfl)) ?_
    refine rg_put (d := 20) (v := .d (.fl (.bool (((ix l k).ours != 0))))) rfl (og rfl (op_bin rfl rfl rfl (b_neq _ _ _ _) rfl)) ?_
    refine rg_done rfl ?_
    refine a_cond rfl (fun h3 => ?_) (fun h3 => ?_)
    · skip
      have h4 := t_bne h3
      refine a_region ?_
      refine rg_put (d := 21) (v := .ow 102) rfl (og rfl (op_move rfl rfl rfl)) ?_
      refine rg_put (d := 22) (v := .pt 101 0) rfl (og rfl (of_eff (s_field_pt rfl Try.underlying31 rfl ti9 rfl rfl rfl) rfl)) ?_
      refine rg_put (d := 23) (v := .d (.fl (.string ((ix l k).key)))) rfl (og rfl (op_load_pt rfl Try.underlying9 rfl rfl rfl rfl rfl)) ?_
      refine rg_put (d := 24) (v := .pt 101 1) rfl (og rfl (of_eff (s_field_pt rfl Try.underlying31 rfl ti3 rfl rfl rfl) rfl)) ?_
      refine rg_put (d := 25) (v := .d (.fl (.int .i64 ((ix l k).ours)))) rfl (og rfl (op_load_pt rfl Try.underlying3 rfl rfl rfl rfl rfl)) ?_
      refine rg_put (d := 26) (v := .d (.ag (eRec ((Rec.mk 1 ((ix l k).key) 0 ((ix l k).ours) 0))))) rfl (og rfl (of_eff (op_build rfl Try.underlying37 ti37 rfl (by kernel_rfl) (by kernel_rfl) (pl := #[(0, 1), (1, 1), (2, 1), (3, 1), (4, 1)]) (by kernel_rfl) (.cons rfl rfl (.d _) rfl rfl rfl (.cons rfl rfl (.d _) rfl rfl rfl (.cons rfl rfl (.d _) rfl rfl rfl .nil))) rfl) rfl)) ?_
      refine rg_put (d := 27) (v := .d (.sl 5 (List.map eRec [(Rec.mk 1 ((ix l k).key) 0 ((ix l k).ours) 0)]))) rfl (og rfl (of_eff (op_slices rfl Try.underlying23 ti37 rfl rfl rfl (by kernel_rfl) (xs := [.ag (eRec ((Rec.mk 1 ((ix l k).key) 0 ((ix l k).ours) 0)))]) rfl rfl (.cons rfl rfl (.d _) rfl rfl rfl .nil) rfl) rfl)) ?_
      refine rg_nam (d := 28) (v := .ow 103) (m := 103) (nw := [(103, .tr 37 5 (tD eRec ((((rec l k) ++ [(Rec.mk 3 ((ix l k).key) 0 0 0)]) ++ [(Rec.mk 1 ((ix l k).key) 0 ((ix l k).ours) 0)])))), (102, .no)]) rfl (og rfl (of_eff (s_append_td 103 rfl Try.underlying23 ti37 rfl rfl rfl rfl rfl (.d _) (by simp only [List.length_append, List.length_cons, List.length_nil]; have := rec_len l k; omega) rfl) rfl)) rfl ?_
      refine rg_put (d := 3) (v := .ow 103) rfl (og rfl (op_assign rfl rfl rfl)) ?_
      refine rg_done rfl ?_
      show A _ _ _ _ _ _ _
      refine a_region ?_
      refine rg_put (d := 29) (v := .d (.fl (.int .i64 (((k : Int) + 1))))) rfl (og rfl (op_bin rfl rfl rfl (fun x y w => b_add64 _ _ _ x y w (by omega)) rfl)) ?_
      refine rg_put (d := 8) (v := .d (.fl (.int .i64 (((k : Int) + 1))))) rfl (og rfl (op_move rfl rfl rfl)) ?_
      refine rg_done rfl ?_
      show ∃ i, _ ∧ _ ∧ Imp _ _ _ _ _
      refine ⟨k + 1, by omega, by omega, imp_ren (fun m => bif Nat.beq m 700 then 103 else m) rfl ⟨rfl, rfl, rfl, rfl, (by first | rfl | exact ci (by omega) | exact ci (by simp) | exact cd (by simp) | simp), rfl, trivial⟩ ⟨(congrArg (fun z => Ob.tr 37 5 (tD eRec z)) (rec_yes (by omega) h3)), trivial⟩⟩
    · skip
      have h5 := f_bne h3
      refine a_skip ?_
      show A _ _ _ _ _ _ _
      refine a_region ?_
      refine rg_put (d := 29) (v := .d (.fl (.int .i64 (((k : Int) + 1))))) rfl (og rfl (op_bin rfl rfl rfl (fun x y w => b_add64 _ _ _ x y w (by omega)) rfl)) ?_
      refine rg_put (d := 8) (v := .d (.fl (.int .i64 (((k : Int) + 1))))) rfl (og rfl (op_move rfl rfl rfl)) ?_
      refine rg_done rfl ?_
      show ∃ i, _ ∧ _ ∧ Imp _ _ _ _ _
      refine ⟨k + 1, by omega, by omega, imp_ren (fun m => bif Nat.beq m 700 then 102 else m) rfl ⟨rfl, rfl, rfl, rfl, (by first | rfl | exact ci (by omega) | exact ci (by simp) | exact cd (by simp) | simp), rfl, trivial⟩ ⟨(congrArg (fun z => Ob.tr 37 5 (tD eRec z)) (rec_no (by omega) h3)), trivial⟩⟩
  · skip
    have h6 := f_dec h1
    refine a_exit ?_
    show A _ _ _ _ _ _ _
    refine a_rseq ?_
    refine rg_put (d := 30) (v := .ow 700) rfl (og rfl (op_move rfl rfl rfl)) ?_
    refine rg_put (d := 2) (v := .ow 700) rfl (og rfl (op_assign rfl rfl rfl)) ?_
    refine rg_done rfl ?_
    refine a_imp (imp_leakT 2 700 rfl rfl) ?_
    refine a_ret ?_
    show ∃ ds, ResL _ _ _ ds ∧ RV.of ds = _
    refine ⟨[.sl 5 (List.map eRec (rec l k))], (.cons (.tmp rfl (.d _)) .nil), ?_⟩
    have hkl : k = l.length := by omega
    subst hkl
    rfl
set_option maxHeartbeats 4000000 in
set_option maxRecDepth 100000 in
theorem cor10 (l : List Dfr) (hl : l.length ≤ 100) : Ctr Try.prog 10 [.sl 3 (List.map eDfr l)] (.d (.sl 5 (List.map eRec (recs l)))) := by
  refine ctr (n := 42) (rs := #[.tmp 2]) (L := [(0, .d (.sl 3 (List.map eDfr l)))]) Try.func10 rfl rfl rfl rfl rfl (fun w0 U0 => ?_)
  refine a_rseq ?_
  refine rg_put (d := 2) (v := .d (.fl (.slice none 0 0))) rfl (og rfl (op_assign rfl rfl rfl)) ?_
  refine rg_done rfl ?_
  refine a_rseq ?_
  refine rg_nam (d := 5) (v := .ow 101) (m := 101) (nw := [(101, .tr 37 5 (tD eRec []))]) rfl (og rfl (of_eff (op_slice0 101 rfl Try.underlying23 ti37 rfl) rfl)) rfl ?_
  refine rg_put (d := 3) (v := .ow 101) rfl (og rfl (op_assign rfl rfl rfl)) ?_
  refine rg_done rfl ?_
  refine a_seq ?_
  refine a_rseq ?_
  refine rg_put (d := 4) (v := .d (.fl (.int .i64 0))) rfl (og rfl (op_assign rfl rfl rfl)) ?_
  refine rg_done rfl ?_
  refine a_block ?_
  refine a_loop (ι := Nat) (fun k => SS [(0, .d (.sl 3 (List.map eDfr l))), (2, .d (.fl (.slice none 0 0))), (4, .d (.fl (.int .i64 (k : Int)))), (3, .ow 101)] [(101, .tr 37 5 (tD eRec (rec l k)))]) (fun k => k ≤ l.length) (fun k => l.length - k) 0 (by omega) (imp_forget rfl ⟨rfl, rfl, (by first | rfl | exact ci (by omega) | exact ci (by simp) | exact cd (by simp) | simp), (by first | rfl | exact ci (by omega) | exact ci (by simp) | exact cd (by simp) | simp), trivial⟩ ⟨(by first | rfl | simp), trivial⟩) (fun k hok => ?_)
  have hk := hok
  refine a_seq ?_
  refine a_rseq ?_
  refine rg_put (d := 6) (v := .d (.fl (.int .i64 (k : Int)))) rfl (og rfl (op_move rfl rfl rfl)) ?_
  refine rg_put (d := 7) (v := .d (.sl 3 (List.map eDfr l))) rfl (og rfl (op_move rfl rfl rfl)) ?_
  refine rg_put (d := 8) (v := .d (.fl (.int .i64 (l.length : Int)))) rfl (og rfl (s_len rfl Try.underlying28 rfl rfl)) ?_
  refine rg_put (d := 9) (v := .d (.fl (.bool ((decide ((k : Int) < (l.length : Int))))))) rfl (og rfl (op_bin rfl rfl rfl (b_lss _ _ _ _) rfl)) ?_
  refine rg_done rfl ?_
  refine a_cond rfl (fun h1 => ?_) (fun h1 => ?_)
  · skip
    have h2 := t_dec h1
    refine a_skip ?_
    show A _ _ _ _ _ _ _
    refine a_seq ?_
    refine a_block ?_
    refine a_rseq ?_
    refine rg_put (d := 12) (v := .ow 101) rfl (og rfl (op_move rfl rfl rfl)) ?_
    refine rg_put (d := 13) (v := .d (.sl 3 (List.map eDfr l))) rfl (og rfl (op_move rfl rfl rfl)) ?_
    refine rg_put (d := 14) (v := .d (.fl (.int .i64 (k : Int)))) rfl (og rfl (op_move rfl rfl rfl)) ?_
    refine rg_put (d := 15) (v := .el ((eDfr (ix l k)))) rfl (og rfl (s_index rfl Try.underlying28 ti31 rfl rfl (by omega) (row_at (by omega)) rfl)) ?_
    refine rg_put (d := 16) (v := .el ((List.drop 0 ((eDfr (ix l k)))))) rfl (og rfl (of_eff (s_field_el rfl Try.underlying31 rfl ti9 rfl rfl rfl) rfl)) ?_
    refine rg_put (d := 17) (v := .d (.fl (.string ((ix l k).key)))) rfl (og rfl (op_load_el rfl Try.underlying9 rfl rfl rfl rfl)) ?_
    refine rg_put (d := 18) (v := .d (.ag (eRec ((Rec.mk 3 ((ix l k).key) 0 0 0))))) rfl (og rfl (of_eff (op_build rfl Try.underlying37 ti37 rfl (by kernel_rfl) (by kernel_rfl) (pl := #[(0, 1), (1, 1), (2, 1), (3, 1), (4, 1)]) (by kernel_rfl) (.cons rfl rfl (.d _) rfl rfl rfl (.cons rfl rfl (.d _) rfl rfl rfl .nil)) rfl) rfl)) ?_
    refine rg_put (d := 19) (v := .d (.sl 5 (List.map eRec [(Rec.mk 3 ((ix l k).key) 0 0 0)]))) rfl (og rfl (of_eff (op_slices rfl Try.underlying23 ti37 rfl rfl rfl (by kernel_rfl) (xs := [.ag (eRec ((Rec.mk 3 ((ix l k).key) 0 0 0)))]) rfl rfl (.cons rfl rfl (.d _) rfl rfl rfl .nil) rfl) rfl)) ?_
    refine rg_nam (d := 20) (v := .ow 102) (m := 102) (nw := [(102, .tr 37 5 (tD eRec (((rec l k) ++ [(Rec.mk 3 ((ix l k).key) 0 0 0)])))), (101, .no)]) rfl (og rfl (of_eff (s_append_td 102 rfl Try.underlying23 ti37 rfl rfl rfl rfl rfl (.d _) (by simp only [List.length_append, List.length_cons, List.length_nil]; have := rec_len l k; omega) rfl) rfl)) rfl ?_
    refine rg_put (d := 3) (v := .ow 102) rfl (og rfl (op_assign rfl rfl rfl)) ?_
    refine rg_done rfl ?_
    refine a_rseq ?_
    refine rg_put (d := 21) (v := .d (.sl 3 (List.map eDfr l))) rfl (og rfl (op_move rfl rfl rfl)) ?_
    refine rg_put (d := 22) (v := .d (.fl (.int .i64 (k : Int)))) rfl (og rfl (op_move rfl rfl rfl)) ?_
    refine rg_put (d := 23) (v := .el ((eDfr (ix l k)))) rfl (og rfl (s_index rfl Try.underlying28 ti31 rfl rfl (by omega) (row_at (by omega)) rfl)) ?_
    refine rg_put (d := 24) (v := .el ((List.drop 1 ((eDfr (ix l k)))))) rfl (og rfl (of_eff (s_field_el rfl Try.underlying31 rfl ti3 rfl rfl rfl) rfl)) ?_
    refine rg_put (d := 25) (v := .d (.fl (.int .i64 ((ix l k).ours)))) rfl (og rfl (op_load_el rfl Try.underlying3 rfl rfl rfl rfl)) ?_
    refine rg_put (d := 26) (v := .d (.fl (.bool (((ix l k).ours != 0))))) rfl (og rfl (op_bin rfl rfl rfl (b_neq _ _ _ _) rfl)) ?_
    refine rg_done rfl ?_
    refine a_cond rfl (fun h3 => ?_) (fun h3 => ?_)
    · skip
      have h4 := t_bne h3
      refine a_draw (by kernel_rfl) ?_
      refine dr_put (d := 27) (v := .ow 102) rfl (og rfl (op_move rfl rfl rfl)) ?_
      refine dr_put (d := 28) (v := .d (.sl 3 (List.map eDfr l))) rfl (og rfl (op_move rfl rfl rfl)) ?_
      refine dr_put (d := 29) (v := .d (.fl (.int .i64 (k : Int)))) rfl (og rfl (op_move rfl rfl rfl)) ?_
      refine dr_put (d := 30) (v := .el ((eDfr (ix l k)))) rfl (og rfl (s_index rfl Try.underlying28 ti31 rfl rfl (by omega) (row_at (by omega)) rfl)) ?_
      refine dr_put (d := 31) (v := .el ((List.drop 0 ((eDfr (ix l k)))))) rfl (og rfl (of_eff (s_field_el rfl Try.underlying31 rfl ti9 rfl rfl rfl) rfl)) ?_
      refine dr_put (d := 32) (v := .d (.fl (.string ((ix l k).key)))) rfl (og rfl (op_load_el rfl Try.underlying9 rfl rfl rfl rfl)) ?_
      refine dr_put (d := 33) (v := .d (.sl 3 (List.map eDfr l))) rfl (og rfl (op_move rfl rfl rfl)) ?_
      refine dr_put (d := 34) (v := .d (.fl (.int .i64 (k : Int)))) rfl (og rfl (op_move rfl rfl rfl)) ?_
      refine dr_put (d := 35) (v := .el ((eDfr (ix l k)))) rfl (og rfl (s_index rfl Try.underlying28 ti31 rfl rfl (by omega) (row_at (by omega)) rfl)) ?_
      refine dr_put (d := 36) (v := .el ((List.drop 1 ((eDfr (ix l k)))))) rfl (og rfl (of_eff (s_field_el rfl Try.underlying31 rfl ti3 rfl rfl rfl) rfl)) ?_
      refine dr_put (d := 37) (v := .d (.fl (.int .i64 ((ix l k).ours)))) rfl (og rfl (op_load_el rfl Try.underlying3 rfl rfl rfl rfl)) ?_
      refine dr_put (d := 38) (v := .d (.ag (eRec ((Rec.mk 1 ((ix l k).key) 0 ((ix l k).ours) 0))))) rfl (og rfl (of_eff (op_build rfl Try.underlying37 ti37 rfl (by kernel_rfl) (by kernel_rfl) (pl := #[(0, 1), (1, 1), (2, 1), (3, 1), (4, 1)]) (by kernel_rfl) (.cons rfl rfl (.d _) rfl rfl rfl (.cons rfl rfl (.d _) rfl rfl rfl (.cons rfl rfl (.d _) rfl rfl rfl .nil))) rfl) rfl)) ?_
      refine dr_put (d := 39) (v := .d (.sl 5 (List.map eRec [(Rec.mk 1 ((ix l k).key) 0 ((ix l k).ours) 0)]))) rfl (og rfl (of_eff (op_slices rfl Try.underlying23 ti37 rfl rfl rfl (by kernel_rfl) (xs := [.ag (eRec ((Rec.mk 1 ((ix l k).key) 0 ((ix l k).ours) 0)))]) rfl rfl (.cons rfl rfl (.d _) rfl rfl rfl .nil) rfl) rfl)) ?_
      refine dr_nam (d := 40) (v := .ow 103) (m := 103) (nw := [(103, .tr 37 5 (tD eRec ((((rec l k) ++ [(Rec.mk 3 ((ix l k).key) 0 0 0)]) ++ [(Rec.mk 1 ((ix l k).key) 0 ((ix l k).ours) 0)])))), (102, .no)]) rfl (og rfl (of_eff (s_append_td 103 rfl Try.underlying23 ti37 rfl rfl rfl rfl rfl (.d _) (by simp only [List.length_append, List.length_cons, List.length_nil]; have := rec_len l k; omega) rfl) rfl)) ?_
      refine dr_put (d := 3) (v := .ow 103) rfl (og rfl (op_assign rfl rfl rfl)) ?_
      refine dr_done rfl (sepB_of [0, 0, 0, 6, 14, 30, 0, 0, 192, 448, 960, 2046, 4094, 8191, 16383] (by kernel_rfl)) (by kernel_rfl) ?_
      show A _ _ _ _ _ _ _
      refine a_region ?_
      refine rg_put (d := 10) (v := .d (.fl (.int .i64 (k : Int)))) rfl (og rfl (op_move rfl rfl rfl)) ?_
      refine rg_put (d := 11) (v := .d (.fl (.int .i64 (((k : Int) + 1))))) rfl (og rfl (op_bin rfl rfl rfl (fun x y w => b_add64 _ _ _ x y w (by omega)) rfl)) ?_
      refine rg_put (d := 4) (v := .d (.fl (.int .i64 (((k : Int) + 1))))) rfl (og rfl (op_assign rfl rfl rfl)) ?_
      refine rg_done rfl ?_
      show ∃ i, _ ∧ _ ∧ Imp _ _ _ _ _
      refine ⟨k + 1, by omega, by omega, imp_ren (fun m => bif Nat.beq m 101 then 103 else m) rfl ⟨rfl, rfl, (by first | rfl | exact ci (by omega) | exact ci (by simp) | exact cd (by simp) | simp), rfl, trivial⟩ ⟨(congrArg (fun z => Ob.tr 37 5 (tD eRec z)) (rec_yes (by omega) h3)), trivial⟩⟩
    · skip
      have h5 := f_bne h3
      refine a_skip ?_
      show A _ _ _ _ _ _ _
      refine a_region ?_
      refine rg_put (d := 10) (v := .d (.fl (.int .i64 (k : Int)))) rfl (og rfl (op_move rfl rfl rfl)) ?_
      refine rg_put (d := 11) (v := .d (.fl (.int .i64 (((k : Int) + 1))))) rfl (og rfl (op_bin rfl rfl rfl (fun x y w => b_add64 _ _ _ x y w (by omega)) rfl)) ?_
      refine rg_put (d := 4) (v := .d (.fl (.int .i64 (((k : Int) + 1))))) rfl (og rfl (op_assign rfl rfl rfl)) ?_
      refine rg_done rfl ?_
      show ∃ i, _ ∧ _ ∧ Imp _ _ _ _ _
      refine ⟨k + 1, by omega, by omega, imp_ren (fun m => bif Nat.beq m 101 then 102 else m) rfl ⟨rfl, rfl, (by first | rfl | exact ci (by omega) | exact ci (by simp) | exact cd (by simp) | simp), rfl, trivial⟩ ⟨(congrArg (fun z => Ob.tr 37 5 (tD eRec z)) (rec_no (by omega) h3)), trivial⟩⟩
  · skip
    have h6 := f_dec h1
    refine a_exit ?_
    show A _ _ _ _ _ _ _
    refine a_rseq ?_
    refine rg_put (d := 41) (v := .ow 101) rfl (og rfl (op_move rfl rfl rfl)) ?_
    refine rg_put (d := 2) (v := .ow 101) rfl (og rfl (op_assign rfl rfl rfl)) ?_
    refine rg_done rfl ?_
    refine a_imp (imp_leakT 2 101 rfl rfl) ?_
    refine a_ret ?_
    show ∃ ds, ResL _ _ _ ds ∧ RV.of ds = _
    refine ⟨[.sl 5 (List.map eRec (rec l k))], (.cons (.tmp rfl (.d _)) .nil), ?_⟩
    have hkl : k = l.length := by omega
    subst hkl
    rfl
set_option maxHeartbeats 4000000 in
set_option maxRecDepth 100000 in
theorem sameC (l : List Rec) (ha : l.length ≤ 9223372036854775807) : Ctr Try.prog 8 [.sl 5 (List.map eRec l), .sl 5 (List.map eRec l)] (.d (.fl (.bool true))) := by
  refine ctr (n := 26) (rs := #[.tmp 4]) (L := [(0, .d (.sl 5 (List.map eRec l))), (1, .d (.sl 5 (List.map eRec l)))]) Try.func8 rfl rfl rfl rfl rfl (fun w0 U0 => ?_)
  refine a_rseq ?_
  refine rg_put (d := 4) (v := .d (.fl (.bool false))) rfl (og rfl (op_assign rfl rfl rfl)) ?_
  refine rg_done rfl ?_
  refine a_seq ?_
  refine a_rseq ?_
  refine rg_put (d := 6) (v := .d (.sl 5 (List.map eRec l))) rfl (og rfl (op_move rfl rfl rfl)) ?_
  refine rg_put (d := 7) (v := .d (.fl (.int .i64 (l.length : Int)))) rfl (og rfl (s_len rfl Try.underlying23 rfl rfl)) ?_
  refine rg_put (d := 8) (v := .d (.sl 5 (List.map eRec l))) rfl (og rfl (op_move rfl rfl rfl)) ?_
  refine rg_put (d := 9) (v := .d (.fl (.int .i64 (l.length : Int)))) rfl (og rfl (s_len rfl Try.underlying23 rfl rfl)) ?_
  refine rg_put (d := 10) (v := .d (.fl (.bool (((l.length : Int) != (l.length : Int)))))) rfl (og rfl (op_bin rfl rfl rfl (b_neq _ _ _ _) rfl)) ?_
  refine rg_done rfl ?_
  refine a_condF rfl (ne_self_b _) ?_
  refine a_skip ?_
  show A _ _ _ _ _ _ _
  refine a_seq ?_
  refine a_rseq ?_
  refine rg_put (d := 5) (v := .d (.fl (.int .i64 0))) rfl (og rfl (op_assign rfl rfl rfl)) ?_
  refine rg_done rfl ?_
  refine a_block ?_
  refine a_loop (ι := Nat) (fun k => SS [(0, .d (.sl 5 (List.map eRec l))), (1, .d (.sl 5 (List.map eRec l))), (10, .d (.fl (.bool (((l.length : Int) != (l.length : Int)))))), (5, .d (.fl (.int .i64 (k : Int))))] []) (fun k => k ≤ l.length) (fun k => l.length - k) 0 (by omega) (imp_forget rfl ⟨rfl, rfl, rfl, (by first | rfl | exact ci (by omega) | exact ci (by simp) | exact cd (by simp) | simp), trivial⟩ trivial) (fun k hok => ?_)
  have hk := hok
  refine a_seq ?_
  refine a_rseq ?_
  refine rg_put (d := 11) (v := .d (.fl (.int .i64 (k : Int)))) rfl (og rfl (op_move rfl rfl rfl)) ?_
  refine rg_put (d := 12) (v := .d (.sl 5 (List.map eRec l))) rfl (og rfl (op_move rfl rfl rfl)) ?_
  refine rg_put (d := 13) (v := .d (.fl (.int .i64 (l.length : Int)))) rfl (og rfl (s_len rfl Try.underlying23 rfl rfl)) ?_
  refine rg_put (d := 14) (v := .d (.fl (.bool ((decide ((k : Int) < (l.length : Int))))))) rfl (og rfl (op_bin rfl rfl rfl (b_lss _ _ _ _) rfl)) ?_
  refine rg_done rfl ?_
  refine a_cond rfl (fun h1 => ?_) (fun h1 => ?_)
  · skip
    have h2 := t_dec h1
    refine a_skip ?_
    show A _ _ _ _ _ _ _
    refine a_seq ?_
    refine a_block ?_
    refine a_dseq (by kernel_rfl) ?_
    refine dr_put (d := 17) (v := .d (.sl 5 (List.map eRec l))) rfl (og rfl (op_move rfl rfl rfl)) ?_
    refine dr_put (d := 18) (v := .d (.fl (.int .i64 (k : Int)))) rfl (og rfl (op_move rfl rfl rfl)) ?_
    refine dr_put (d := 19) (v := .el ((eRec (ix l k)))) rfl (og rfl (s_index rfl Try.underlying23 ti37 rfl rfl (by omega) (row_at (by omega)) rfl)) ?_
    refine dr_put (d := 20) (v := .d (.ag (eRec (ix l k)))) rfl (og rfl (of_eff (s_load_els rfl Try.underlying37 rfl ti37 rfl rfl rfl) rfl)) ?_
    refine dr_put (d := 21) (v := .d (.sl 5 (List.map eRec l))) rfl (og rfl (op_move rfl rfl rfl)) ?_
    refine dr_put (d := 22) (v := .d (.fl (.int .i64 (k : Int)))) rfl (og rfl (op_move rfl rfl rfl)) ?_
    refine dr_put (d := 23) (v := .el ((eRec (ix l k)))) rfl (og rfl (s_index rfl Try.underlying23 ti37 rfl rfl (by omega) (row_at (by omega)) rfl)) ?_
    refine dr_put (d := 24) (v := .d (.ag (eRec (ix l k)))) rfl (og rfl (of_eff (s_load_els rfl Try.underlying37 rfl ti37 rfl rfl rfl) rfl)) ?_
    refine dr_put (d := 25) (v := .d (.fl (.bool false))) rfl (og rfl (op_eqS [.int .i64 ((ix l k).kind), .string ((ix l k).key), .int .i64 ((ix l k).time), .int .i64 ((ix l k).cents), .int .i64 ((ix l k).why)] [.int .i64 ((ix l k).kind), .string ((ix l k).key), .int .i64 ((ix l k).time), .int .i64 ((ix l k).cents), .int .i64 ((ix l k).why)] rfl rfl rfl (b := false) (fun ww => neq37 (ix l k) _ _ ww) rfl)) ?_
    refine dr_done rfl (by kernel_rfl) (by kernel_rfl) ?_
    refine a_condF rfl rfl ?_
    refine a_skip ?_
    show A _ _ _ _ _ _ _
    refine a_region ?_
    refine rg_put (d := 15) (v := .d (.fl (.int .i64 (k : Int)))) rfl (og rfl (op_move rfl rfl rfl)) ?_
    refine rg_put (d := 16) (v := .d (.fl (.int .i64 (((k : Int) + 1))))) rfl (og rfl (op_bin rfl rfl rfl (fun x y w => b_add64 _ _ _ x y w (by omega)) rfl)) ?_
    refine rg_put (d := 5) (v := .d (.fl (.int .i64 (((k : Int) + 1))))) rfl (og rfl (op_assign rfl rfl rfl)) ?_
    refine rg_done rfl ?_
    show ∃ i, _ ∧ _ ∧ Imp _ _ _ _ _
    refine ⟨k + 1, (by omega), by omega, imp_forget rfl ⟨rfl, rfl, rfl, (by first | rfl | exact ci (by omega) | exact ci (by simp) | exact cd (by simp) | simp), trivial⟩ trivial⟩
  · skip
    have h3 := f_dec h1
    refine a_exit ?_
    show A _ _ _ _ _ _ _
    refine a_rseq ?_
    refine rg_put (d := 4) (v := .d (.fl (.bool true))) rfl (og rfl (op_assign rfl rfl rfl)) ?_
    refine rg_done rfl ?_
    refine a_ret ?_
    show ∃ ds, ResL _ _ _ ds ∧ RV.of ds = _
    refine ⟨[.fl (.bool true)], (.cons (.tmp rfl (.d _)) .nil), ?_⟩
    rfl
set_option maxHeartbeats 4000000 in
set_option maxRecDepth 100000 in
theorem law3 (a b : Ptn) (hla1 : a.ours.length ≤ 9223372036854775807) (hla2 : a.theirs.length ≤ 9223372036854775807) (hlb1 : b.ours.length ≤ 9223372036854775807) (hlb2 : b.theirs.length ≤ 9223372036854775807) : Ctr Try.prog 3 [.ag (ePt a), .ag (ePt b)] (.d (.fl (.bool true))) := by
  refine ctr (n := 60) (rs := #[.tmp 4]) (L := [(0, .d (.ag (ePt a))), (1, .d (.ag (ePt b)))]) Try.func3 rfl rfl rfl rfl rfl (fun w0 U0 => ?_)
  refine a_rseq ?_
  refine rg_nam (d := 2) (v := .pt 101 0) (m := 101) (nw := [(101, .bx 25 (ePt a))]) rfl (og rfl (of_eff (op_box 101 rfl rfl rfl rfl) rfl)) rfl ?_
  refine rg_nam (d := 3) (v := .pt 102 0) (m := 102) (nw := [(102, .bx 25 (ePt b))]) rfl (og rfl (of_eff (op_box 102 rfl rfl rfl rfl) rfl)) rfl ?_
  refine rg_put (d := 4) (v := .d (.fl (.bool false))) rfl (og rfl (op_assign rfl rfl rfl)) ?_
  refine rg_done rfl ?_
  refine a_seq ?_
  refine a_rseq ?_
  refine rg_put (d := 8) (v := .d (.ag (ePt a))) rfl (og rfl (of_eff (s_load_pts rfl Try.underlying25 rfl ti25 rfl rfl rfl rfl) rfl)) ?_
  refine rg_put (d := 9) (v := .d (.fl (.bool (smB a)))) rfl (og rfl (op_call rfl Try.func4 nm4 rfl (.cons rfl (.d _) .nil) (smC a hla1 hla2) rfl)) ?_
  refine rg_put (d := 10) (v := .d (.fl (.bool ((!(smB a)))))) rfl (og rfl (op_un rfl rfl (u_not _) rfl)) ?_
  refine rg_put (d := 11) (v := .d (.fl (.bool ((!(smB a)))))) rfl (og rfl (op_move rfl rfl rfl)) ?_
  rcases fot ((!(smB a))) with h1 | h1
  · skip
    have h2 := f_not h1
    refine rg_put (d := 12) (v := .d (.ag (ePt b))) rfl (oy rfl rfl rfl h1 (of_eff (s_load_pts rfl Try.underlying25 rfl ti25 rfl rfl rfl rfl) rfl)) ?_
    refine rg_put (d := 13) (v := .d (.fl (.bool (smB b)))) rfl (oy rfl rfl rfl h1 (op_call rfl Try.func4 nm4 rfl (.cons rfl (.d _) .nil) (smC b hlb1 hlb2) rfl)) ?_
    refine rg_put (d := 14) (v := .d (.fl (.bool ((!(smB b)))))) rfl (oy rfl rfl rfl h1 (op_un rfl rfl (u_not _) rfl)) ?_
    refine rg_put (d := 15) (v := .d (.fl (.bool ((!(smB b)))))) rfl (og rfl (op_pick rfl rfl (by rw [h1]; rfl) rfl)) ?_
    refine rg_done rfl ?_
    refine a_cond rfl (fun h3 => ?_) (fun h3 => ?_)
    · skip
      have h4 := t_not h3
      refine a_rseq ?_
      refine rg_put (d := 16) (v := .d (.fl (.bool true))) rfl (og rfl (op_call rfl Try.func5 nm5 rfl .nil aliveT rfl)) ?_
      refine rg_put (d := 4) (v := .d (.fl (.bool true))) rfl (og rfl (op_assign rfl rfl rfl)) ?_
      refine rg_done rfl ?_
      refine a_ret ?_
      show ∃ ds, ResL _ _ _ ds ∧ RV.of ds = _
      refine ⟨[.fl (.bool true)], (.cons (.tmp rfl (.d _)) .nil), ?_⟩
      rfl
    · skip
      have h5 := f_not h3
      refine a_skip ?_
      show A _ _ _ _ _ _ _
      refine a_rseq ?_
      have ha := okP_r h2
      have hb := okP_r h5
      have hdl := dfL_len a.ours b.theirs
      have q1 := ha.lo
      have q2 := hb.lt
      refine rg_put (d := 17) (v := .d (.ag (ePt a))) rfl (og rfl (of_eff (s_load_pts rfl Try.underlying25 rfl ti25 rfl rfl rfl rfl) rfl)) ?_
      refine rg_put (d := 18) (v := .d (.ag (ePt b))) rfl (og rfl (of_eff (s_load_pts rfl Try.underlying25 rfl ti25 rfl rfl rfl rfl) rfl)) ?_
      refine rg_put (d := 19) (v := .d (.sl 3 (List.map eDfr (dfL a.ours b.theirs)))) rfl (og rfl (op_call rfl Try.func6 nm6 rfl (.cons rfl (.d _) (.cons rfl (.d _) .nil)) (difC a b (by have := ha.lo; omega) (by have := hb.lt; omega) ha.oo hb.ot ha.zo hb.zt) rfl)) ?_
      refine rg_put (d := 5) (v := .d (.sl 3 (List.map eDfr (dfL a.ours b.theirs)))) rfl (og rfl (op_assign rfl rfl rfl)) ?_
      refine rg_done rfl ?_
      refine a_rseq ?_
      refine rg_put (d := 20) (v := .d (.ag (ePt a))) rfl (og rfl (of_eff (s_load_pts rfl Try.underlying25 rfl ti25 rfl rfl rfl rfl) rfl)) ?_
      refine rg_put (d := 21) (v := .d (.ag (ePt b))) rfl (og rfl (of_eff (s_load_pts rfl Try.underlying25 rfl ti25 rfl rfl rfl rfl) rfl)) ?_
      refine rg_put (d := 22) (v := .d (.sl 3 (List.map eDfr (dfL a.ours b.theirs)))) rfl (og rfl (op_call rfl Try.func7 nm7 rfl (.cons rfl (.d _) (.cons rfl (.d _) .nil)) (difR a b (by have := ha.lo; omega) (by have := hb.lt; omega) ha.oo hb.ot ha.zo hb.zt) rfl)) ?_
      refine rg_put (d := 6) (v := .d (.sl 3 (List.map eDfr (dfL a.ours b.theirs)))) rfl (og rfl (op_assign rfl rfl rfl)) ?_
      refine rg_done rfl ?_
      refine a_seq ?_
      refine a_rseq ?_
      refine rg_put (d := 23) (v := .d (.sl 3 (List.map eDfr (dfL a.ours b.theirs)))) rfl (og rfl (op_move rfl rfl rfl)) ?_
      refine rg_put (d := 24) (v := .d (.fl (.int .i64 (((dfL a.ours b.theirs).length : Int))))) rfl (og rfl (s_len rfl Try.underlying28 rfl rfl)) ?_
      refine rg_put (d := 25) (v := .d (.sl 3 (List.map eDfr (dfL a.ours b.theirs)))) rfl (og rfl (op_move rfl rfl rfl)) ?_
      refine rg_put (d := 26) (v := .d (.fl (.int .i64 (((dfL a.ours b.theirs).length : Int))))) rfl (og rfl (s_len rfl Try.underlying28 rfl rfl)) ?_
      refine rg_put (d := 27) (v := .d (.fl (.bool ((((dfL a.ours b.theirs).length : Int) != ((dfL a.ours b.theirs).length : Int)))))) rfl (og rfl (op_bin rfl rfl rfl (b_neq _ _ _ _) rfl)) ?_
      refine rg_done rfl ?_
      refine a_condF rfl (bne_self_eq_false _) ?_
      refine a_skip ?_
      show A _ _ _ _ _ _ _
      refine a_seq ?_
      refine a_rseq ?_
      refine rg_put (d := 7) (v := .d (.fl (.int .i64 0))) rfl (og rfl (op_assign rfl rfl rfl)) ?_
      refine rg_done rfl ?_
      refine a_block ?_
      refine a_loop (ι := Nat) (fun k => SS [(0, .d (.ag (ePt a))), (1, .d (.ag (ePt b))), (2, .pt 101 0), (3, .pt 102 0), (5, .d (.sl 3 (List.map eDfr (dfL a.ours b.theirs)))), (6, .d (.sl 3 (List.map eDfr (dfL a.ours b.theirs)))), (15, .d (.fl (.bool ((!(smB b)))))), (27, .d (.fl (.bool ((((dfL a.ours b.theirs).length : Int) != ((dfL a.ours b.theirs).length : Int)))))), (7, .d (.fl (.int .i64 (k : Int))))] [(101, .bx 25 (ePt a)), (102, .bx 25 (ePt b))]) (fun k => k ≤ (dfL a.ours b.theirs).length) (fun k => (dfL a.ours b.theirs).length - k) 0 (by omega) (imp_forget rfl ⟨rfl, rfl, rfl, rfl, rfl, rfl, rfl, rfl, (by first | rfl | exact ci (by omega) | exact ci (by simp) | exact cd (by simp) | simp), trivial⟩ ⟨rfl, rfl, trivial⟩) (fun k hok => ?_)
      have hk := hok
      refine a_seq ?_
      refine a_rseq ?_
      refine rg_put (d := 28) (v := .d (.fl (.int .i64 (k : Int)))) rfl (og rfl (op_move rfl rfl rfl)) ?_
      refine rg_put (d := 29) (v := .d (.sl 3 (List.map eDfr (dfL a.ours b.theirs)))) rfl (og rfl (op_move rfl rfl rfl)) ?_
      refine rg_put (d := 30) (v := .d (.fl (.int .i64 (((dfL a.ours b.theirs).length : Int))))) rfl (og rfl (s_len rfl Try.underlying28 rfl rfl)) ?_
      refine rg_put (d := 31) (v := .d (.fl (.bool ((decide ((k : Int) < ((dfL a.ours b.theirs).length : Int))))))) rfl (og rfl (op_bin rfl rfl rfl (b_lss _ _ _ _) rfl)) ?_
      refine rg_done rfl ?_
      refine a_cond rfl (fun h6 => ?_) (fun h6 => ?_)
      · skip
        have h7 := t_dec h6
        refine a_skip ?_
        show A _ _ _ _ _ _ _
        refine a_seq ?_
        refine a_block ?_
        refine a_dseq (by kernel_rfl) ?_
        refine dr_put (d := 34) (v := .d (.sl 3 (List.map eDfr (dfL a.ours b.theirs)))) rfl (og rfl (op_move rfl rfl rfl)) ?_
        refine dr_put (d := 35) (v := .d (.fl (.int .i64 (k : Int)))) rfl (og rfl (op_move rfl rfl rfl)) ?_
        refine dr_put (d := 36) (v := .el ((eDfr ((ix (dfL a.ours b.theirs) k))))) rfl (og rfl (s_index rfl Try.underlying28 ti31 rfl rfl (by omega) (row_at (by omega)) rfl)) ?_
        refine dr_put (d := 37) (v := .d (.ag (eDfr (((ix (dfL a.ours b.theirs) k)))))) rfl (og rfl (of_eff (s_load_els rfl Try.underlying31 rfl ti31 rfl rfl rfl) rfl)) ?_
        refine dr_put (d := 38) (v := .d (.sl 3 (List.map eDfr (dfL a.ours b.theirs)))) rfl (og rfl (op_move rfl rfl rfl)) ?_
        refine dr_put (d := 39) (v := .d (.fl (.int .i64 (k : Int)))) rfl (og rfl (op_move rfl rfl rfl)) ?_
        refine dr_put (d := 40) (v := .el ((eDfr ((ix (dfL a.ours b.theirs) k))))) rfl (og rfl (s_index rfl Try.underlying28 ti31 rfl rfl (by omega) (row_at (by omega)) rfl)) ?_
        refine dr_put (d := 41) (v := .d (.ag (eDfr (((ix (dfL a.ours b.theirs) k)))))) rfl (og rfl (of_eff (s_load_els rfl Try.underlying31 rfl ti31 rfl rfl rfl) rfl)) ?_
        refine dr_put (d := 42) (v := .d (.fl (.bool false))) rfl (og rfl (op_eqS [.string ((((ix (dfL a.ours b.theirs) k))).key), .int .i64 ((((ix (dfL a.ours b.theirs) k))).ours), .int .i64 ((((ix (dfL a.ours b.theirs) k))).theirs)] [.string ((((ix (dfL a.ours b.theirs) k))).key), .int .i64 ((((ix (dfL a.ours b.theirs) k))).ours), .int .i64 ((((ix (dfL a.ours b.theirs) k))).theirs)] rfl rfl rfl (b := false) (fun ww => neq31 (((ix (dfL a.ours b.theirs) k))) _ _ ww) rfl)) ?_
        refine dr_done rfl (by kernel_rfl) (by kernel_rfl) ?_
        refine a_condF rfl rfl ?_
        refine a_skip ?_
        show A _ _ _ _ _ _ _
        refine a_region ?_
        refine rg_put (d := 32) (v := .d (.fl (.int .i64 (k : Int)))) rfl (og rfl (op_move rfl rfl rfl)) ?_
        refine rg_put (d := 33) (v := .d (.fl (.int .i64 (((k : Int) + 1))))) rfl (og rfl (op_bin rfl rfl rfl (fun x y w => b_add64 _ _ _ x y w (by omega)) rfl)) ?_
        refine rg_put (d := 7) (v := .d (.fl (.int .i64 (((k : Int) + 1))))) rfl (og rfl (op_assign rfl rfl rfl)) ?_
        refine rg_done rfl ?_
        show ∃ i, _ ∧ _ ∧ Imp _ _ _ _ _
        refine ⟨k + 1, (by omega), by omega, imp_forget rfl ⟨rfl, rfl, rfl, rfl, rfl, rfl, rfl, rfl, (by first | rfl | exact ci (by omega) | exact ci (by simp) | exact cd (by simp) | simp), trivial⟩ ⟨rfl, rfl, trivial⟩⟩
      · skip
        have h8 := f_dec h6
        refine a_exit ?_
        show A _ _ _ _ _ _ _
        refine a_dseq (by kernel_rfl) ?_
        refine dr_put (d := 43) (v := .d (.sl 3 (List.map eDfr (dfL a.ours b.theirs)))) rfl (og rfl (op_move rfl rfl rfl)) ?_
        refine dr_put (d := 44) (v := .d (.sl 5 (List.map eRec ((recs (dfL a.ours b.theirs)))))) rfl (og rfl (op_call rfl Try.func9 nm9 rfl (.cons rfl (.d _) .nil) (cor9 (dfL a.ours b.theirs) (by omega)) rfl)) ?_
        refine dr_put (d := 45) (v := .d (.sl 3 (List.map eDfr (dfL a.ours b.theirs)))) rfl (og rfl (op_move rfl rfl rfl)) ?_
        refine dr_put (d := 46) (v := .d (.sl 5 (List.map eRec ((recs (dfL a.ours b.theirs)))))) rfl (og rfl (op_call rfl Try.func10 nm10 rfl (.cons rfl (.d _) .nil) (cor10 (dfL a.ours b.theirs) (by omega)) rfl)) ?_
        refine dr_put (d := 47) (v := .d (.fl (.bool true))) rfl (og rfl (op_call rfl Try.func8 nm8 rfl (.cons rfl (.d _) (.cons rfl (.d _) .nil)) (sameC ((recs (dfL a.ours b.theirs))) (by have := recs_len (dfL a.ours b.theirs); omega)) rfl)) ?_
        refine dr_put (d := 48) (v := .d (.fl (.bool true))) rfl (og rfl (op_move rfl rfl rfl)) ?_
        refine dr_put (d := 49) (v := .d (.ag (ePt a))) rfl (oy rfl rfl rfl rfl (of_eff (s_load_pts rfl Try.underlying25 rfl ti25 rfl rfl rfl rfl) rfl)) ?_
        refine dr_put (d := 50) (v := .d (.ag (ePt b))) rfl (oy rfl rfl rfl rfl (of_eff (s_load_pts rfl Try.underlying25 rfl ti25 rfl rfl rfl rfl) rfl)) ?_
        refine dr_put (d := 51) (v := .d (.fl (.bool (agB a b)))) rfl (oy rfl rfl rfl rfl (op_call rfl Try.func11 nm11 rfl (.cons rfl (.d _) (.cons rfl (.d _) .nil)) (agC a b (okP_r h2) (okP_r h5)) rfl)) ?_
        refine dr_put (d := 52) (v := .d (.ag (ePt a))) rfl (oy rfl rfl rfl rfl (of_eff (s_load_pts rfl Try.underlying25 rfl ti25 rfl rfl rfl rfl) rfl)) ?_
        refine dr_put (d := 53) (v := .d (.ag (ePt b))) rfl (oy rfl rfl rfl rfl (of_eff (s_load_pts rfl Try.underlying25 rfl ti25 rfl rfl rfl rfl) rfl)) ?_
        refine dr_put (d := 54) (v := .d (.fl (.bool (agB a b)))) rfl (oy rfl rfl rfl rfl (op_call rfl Try.func12 nm12 rfl (.cons rfl (.d _) (.cons rfl (.d _) .nil)) (agR a b (okP_r h2) (okP_r h5)) rfl)) ?_
        refine dr_put (d := 55) (v := .d (.fl (.bool (((agB a b) == (agB a b)))))) rfl (oy rfl rfl rfl rfl (op_bin rfl rfl rfl (fun x y w => b_beq _ _ _ x y w Try.underlying4) rfl)) ?_
        refine dr_put (d := 56) (v := .d (.fl (.bool (((agB a b) == (agB a b)))))) rfl (og rfl (op_pick rfl rfl rfl rfl)) ?_
        refine dr_put (d := 57) (v := .d (.fl (.bool (((agB a b) == (agB a b)))))) rfl (og rfl (op_move rfl rfl rfl)) ?_
        refine dr_put (d := 58) (v := .d (.fl (.bool true))) rfl (oy rfl rfl rfl (beq_self_eq_true _) (op_call rfl Try.func5 nm5 rfl .nil aliveT rfl)) ?_
        refine dr_put (d := 59) (v := .d (.fl (.bool true))) rfl (og rfl (op_pick rfl rfl (by rw [(beq_self_eq_true _)]; rfl) rfl)) ?_
        refine dr_put (d := 4) (v := .d (.fl (.bool true))) rfl (og rfl (op_assign rfl rfl rfl)) ?_
        refine dr_done rfl (sepB_of [0, 1, 0, 7, 15, 31, 63, 63, 255, 63, 63, 2047, 4095, 8191, 16383, 32767, 65535, 131071] (by kernel_rfl)) (by kernel_rfl) ?_
        refine a_ret ?_
        show ∃ ds, ResL _ _ _ ds ∧ RV.of ds = _
        refine ⟨[.fl (.bool true)], (.cons (.tmp rfl (.d _)) .nil), ?_⟩
        rfl
  · skip
    have h9 := t_not h1
    refine rg_put (d := 12) (v := .d (.fl undef)) rfl (on rfl rfl rfl h1) ?_
    refine rg_put (d := 13) (v := .d (.fl undef)) rfl (on rfl rfl rfl h1) ?_
    refine rg_put (d := 14) (v := .d (.fl undef)) rfl (on rfl rfl rfl h1) ?_
    refine rg_put (d := 15) (v := .d (.fl (.bool true))) rfl (og rfl (op_pick rfl rfl (by rw [h1]; rfl) rfl)) ?_
    refine rg_done rfl ?_
    refine a_condK rfl rfl ?_
    refine a_rseq ?_
    refine rg_put (d := 16) (v := .d (.fl (.bool true))) rfl (og rfl (op_call rfl Try.func5 nm5 rfl .nil aliveT rfl)) ?_
    refine rg_put (d := 4) (v := .d (.fl (.bool true))) rfl (og rfl (op_assign rfl rfl rfl)) ?_
    refine rg_done rfl ?_
    refine a_ret ?_
    show ∃ ds, ResL _ _ _ ds ∧ RV.of ds = _
    refine ⟨[.fl (.bool true)], (.cons (.tmp rfl (.d _)) .nil), ?_⟩
    rfl
end Go.Proofs.Ytobgdemhadlgnaa.Wk
