/- The law of the parts. No condition. -/
import Derived.Test.YtipkielpicfobaaAvS
import Derived.Test.YtipkielpicfobaaAvX
import Derived.Test.YtipkielpicfobaaAvL
import Derived.Test.YtipkielpicfobaaAvN
import Derived.Test.YtipkielpicfobaaAl13
import Derived.Test.YtipkielpicfobaaO4
set_option linter.unusedSimpArgs false
set_option linter.unusedVariables false
namespace Go.Proofs.Ytipkielpicfobaa.Wk
open Go Go.RowKit Go.Proofs.Ytipkielpicfobaa.Av
def eS (a b : Sen) : Bool := ((((((((((sEq a.d.dev b.d.dev && (a.d.seq == b.d.seq)) && (a.d.time == b.d.time)) && sEq a.d.tag b.d.tag) && sEq a.d.plate b.d.plate) && (a.d.axl == b.d.axl)) && (a.d.score == b.d.score)) && (a.time == b.time)) && sEq a.point b.point) && (a.lane == b.lane)) && (a.kind == b.kind))
theorem eS_e {a b : Sen} (h : eS a b = true) : a = b := by
  unfold eS at h
  simp only [Bool.and_eq_true, beq_iff_eq] at h
  obtain ⟨⟨⟨⟨⟨⟨⟨⟨⟨⟨h0, h1⟩, h2⟩, h3⟩, h4⟩, h5⟩, h6⟩, h7⟩, h8⟩, h9⟩, h10⟩ := h
  have g0 := sEq_eq h0
  have g3 := sEq_eq h3
  have g4 := sEq_eq h4
  have g8 := sEq_eq h8
  rcases a with ⟨⟨⟩⟩
  rcases b with ⟨⟨⟩⟩
  simp only at h1 h2 h5 h6 h7 h9 h10 g0 g3 g4 g8
  subst h1 h2 h5 h6 h7 h9 h10 g0 g3 g4 g8
  rfl
theorem eS_self (a : Sen) : eS a a = true := by unfold eS; simp [sEq]
theorem eqG (a b : Sen) (w : World) : (Op.equalIn 10000 31 (.agg (([.string a.d.dev, .int .i64 a.d.seq, .int .i64 a.d.time, .string a.d.tag, .string a.d.plate, .int .i64 a.d.axl, .int .i64 a.d.score, .int .i64 a.time, .string a.point, .int .i64 a.lane, .int .i64 a.kind] : List Value).toArray)) (.agg (([.string b.d.dev, .int .i64 b.d.seq, .int .i64 b.d.time, .string b.d.tag, .string b.d.plate, .int .i64 b.d.axl, .int .i64 b.d.score, .int .i64 b.time, .string b.point, .int .i64 b.lane, .int .i64 b.kind] : List Value).toArray))).run Try.prog w = .ok (eS a b) w := by
  have hS : Try.prog.underlying 31 = some (.struct (Try.prog.fieldsOf 31)) := by kernel_rfl
  have hp : Try.prog.stoodInHeld 31 = false := by kernel_rfl
  unfold eS
  rw [show (10000 : Nat) = 9999 + 1 from rfl, run_equalIn_agg w 9999 31 _ _ hS hp]
  simp only [Program.fieldsOf, Try.underlying31, Try.underlying29]
  simp only [← toList_sEq]
  by_cases h0 : a.d.dev.toList == b.d.dev.toList
  · skip
    by_cases h1 : a.d.seq == b.d.seq
    · skip
      by_cases h2 : a.d.time == b.d.time
      · skip
        by_cases h3 : a.d.tag.toList == b.d.tag.toList
        · skip
          by_cases h4 : a.d.plate.toList == b.d.plate.toList
          · skip
            by_cases h5 : a.d.axl == b.d.axl
            · skip
              by_cases h6 : a.d.score == b.d.score
              · skip
                by_cases h7 : a.time == b.time
                · skip
                  by_cases h8 : a.point.toList == b.point.toList
                  · skip
                    by_cases h9 : a.lane == b.lane
                    · skip
                      by_cases h10 : a.kind == b.kind
                      · skip
                        simp only [h0, h1, h2, h3, h4, h5, h6, h7, h8, h9, h10] <;> go_simp
                      · simp only [h0, h1, h2, h3, h4, h5, h6, h7, h8, h9, h10] <;> go_simp
                    · simp only [h0, h1, h2, h3, h4, h5, h6, h7, h8, h9] <;> go_simp
                  · simp only [h0, h1, h2, h3, h4, h5, h6, h7, h8] <;> go_simp
                · simp only [h0, h1, h2, h3, h4, h5, h6, h7] <;> go_simp
              · simp only [h0, h1, h2, h3, h4, h5, h6] <;> go_simp
            · simp only [h0, h1, h2, h3, h4, h5] <;> go_simp
          · simp only [h0, h1, h2, h3, h4] <;> go_simp
        · simp only [h0, h1, h2, h3] <;> go_simp
      · simp only [h0, h1, h2] <;> go_simp
    · simp only [h0, h1] <;> go_simp
  · simp only [h0] <;> go_simp
theorem eqlG (a b : Sen) (x y : Operand) (w : World) : (do eqGuard .eql 31 x y (.agg (([.string a.d.dev, .int .i64 a.d.seq, .int .i64 a.d.time, .string a.d.tag, .string a.d.plate, .int .i64 a.d.axl, .int .i64 a.d.score, .int .i64 a.time, .string a.point, .int .i64 a.lane, .int .i64 a.kind] : List Value).toArray)) (.agg (([.string b.d.dev, .int .i64 b.d.seq, .int .i64 b.d.time, .string b.d.tag, .string b.d.plate, .int .i64 b.d.axl, .int .i64 b.d.score, .int .i64 b.time, .string b.point, .int .i64 b.lane, .int .i64 b.kind] : List Value).toArray)); binOp .eql 31 (.agg (([.string a.d.dev, .int .i64 a.d.seq, .int .i64 a.d.time, .string a.d.tag, .string a.d.plate, .int .i64 a.d.axl, .int .i64 a.d.score, .int .i64 a.time, .string a.point, .int .i64 a.lane, .int .i64 a.kind] : List Value).toArray)) (.agg (([.string b.d.dev, .int .i64 b.d.seq, .int .i64 b.d.time, .string b.d.tag, .string b.d.plate, .int .i64 b.d.axl, .int .i64 b.d.score, .int .i64 b.time, .string b.point, .int .i64 b.lane, .int .i64 b.kind] : List Value).toArray)) : Sem Value).run Try.prog w = .ok (.bool (eS a b)) w := by
  have hm : Try.prog.eqGuardType Try.prog.depth 31 = false := by kernel_rfl
  rw [Sem.run_bind, run_eqGuard_agg w .eql 31 x y _ _ hm, Result.andThen_ok, run_eql_struct, eqG]
  rfl
theorem neqG (a b : Sen) (x y : Operand) (w : World) : (do eqGuard .neq 31 x y (.agg (([.string a.d.dev, .int .i64 a.d.seq, .int .i64 a.d.time, .string a.d.tag, .string a.d.plate, .int .i64 a.d.axl, .int .i64 a.d.score, .int .i64 a.time, .string a.point, .int .i64 a.lane, .int .i64 a.kind] : List Value).toArray)) (.agg (([.string b.d.dev, .int .i64 b.d.seq, .int .i64 b.d.time, .string b.d.tag, .string b.d.plate, .int .i64 b.d.axl, .int .i64 b.d.score, .int .i64 b.time, .string b.point, .int .i64 b.lane, .int .i64 b.kind] : List Value).toArray)); binOp .neq 31 (.agg (([.string a.d.dev, .int .i64 a.d.seq, .int .i64 a.d.time, .string a.d.tag, .string a.d.plate, .int .i64 a.d.axl, .int .i64 a.d.score, .int .i64 a.time, .string a.point, .int .i64 a.lane, .int .i64 a.kind] : List Value).toArray)) (.agg (([.string b.d.dev, .int .i64 b.d.seq, .int .i64 b.d.time, .string b.d.tag, .string b.d.plate, .int .i64 b.d.axl, .int .i64 b.d.score, .int .i64 b.time, .string b.point, .int .i64 b.lane, .int .i64 b.kind] : List Value).toArray)) : Sem Value).run Try.prog w = .ok (.bool (!(eS a b))) w := by
  have hm : Try.prog.eqGuardType Try.prog.depth 31 = false := by kernel_rfl
  rw [Sem.run_bind, run_eqGuard_agg w .neq 31 x y _ _ hm, Result.andThen_ok, run_neq_struct, eqG]
  rfl

def cnK (l : List Sen) (s : Sen) (k : Nat) : Nat := ((l.take k).filter fun x => eS x s).length
def cnt (l : List Sen) (s : Sen) : Int := (cnK l s l.length : Int)
theorem cnK_y {l : List Sen} {s : Sen} {k : Nat} (hk : k < l.length) (h : eS (ix l k) s = true) : cnK l s (k + 1) = cnK l s k + 1 := by
  unfold cnK; rw [take_ix hk, List.filter_append, List.length_append]; simp [h]
theorem cnK_n {l : List Sen} {s : Sen} {k : Nat} (hk : k < l.length) (h : eS (ix l k) s = false) : cnK l s (k + 1) = cnK l s k := by
  unfold cnK; rw [take_ix hk, List.filter_append, List.length_append]; simp [h]
theorem cnK_le (l : List Sen) (s : Sen) (k : Nat) : cnK l s k ≤ k := by
  have := List.length_filter_le (fun x => eS x s) (l.take k)
  rw [List.length_take] at this; unfold cnK; omega
theorem cnt_perm {l m : List Sen} (h : l.Perm m) (s : Sen) : cnt l s = cnt m s := by
  unfold cnt cnK
  rw [List.take_length, List.take_length, (h.filter _).length_eq]
theorem cnt_mem {l : List Sen} {s : Sen} (h : s ∈ l) : 0 < cnt l s := by
  unfold cnt cnK
  rw [List.take_length]
  have := List.length_pos_of_mem (List.mem_filter.2 ⟨h, eS_self s⟩ : s ∈ l.filter fun x => eS x s)
  omega
theorem fl_s {F : List (List Sen)} {k : Nat} (h : k < F.length) : (F.take k).flatten ++ ix F k = (F.take (k + 1)).flatten := by rw [take_ix h, List.flatten_append, List.flatten_singleton]
theorem fl_le (F : List (List Sen)) (k : Nat) : ((F.take k).flatten).length ≤ F.flatten.length := by
  have h : (F.take k).flatten ++ (F.drop k).flatten = F.flatten := by rw [← List.flatten_append, List.take_append_drop]
  have := congrArg List.length h
  rw [List.length_append] at this; omega
theorem frm_fl_len (l : List Sen) (gap : Int) : (frm l gap).flatten.length = l.length := (frm_flat l gap).length_eq
theorem wu {z : Int} (h0 : 0 ≤ z) (h1 : z < 18446744073709551616) : IntKind.u64.wrap z = z := Int.emod_eq_of_lt h0 h1
theorem nr_iff {a b gap : Int} (h0 : 0 ≤ a) (h1 : a ≤ b) (h2 : b ≤ 9223372036854775807) (h3 : 0 ≤ gap) (h4 : gap ≤ 9223372036854775807) : nrB a b gap = decide (b - a ≤ gap) := by
  unfold nrB
  rw [Int.max_eq_right h1, Int.min_eq_left h1, Int.max_eq_left h3, wu (z := b) (by omega) (by omega), wu (z := a) (by omega) (by omega), wu (z := b - a) (by omega) (by omega), wu (z := gap) h3 (by omega)]
theorem pt_mid {a x b : Sen} (h1 : cq a x ≤ 0) (h2 : cq x b ≤ 0) (h : a.point = b.point) : x.point = a.point := by
  have e1 := (cq_le h1).1
  have e2 := (cq_le h2).1
  rw [← h] at e2
  exact sc_e (by have := sc_neg a.point x.point; omega)
theorem sep_gap {gap : Int} {a b : Sen} (h : SepR gap a b) (hp : a.point = b.point) (h0 : 0 ≤ a.time) (h2 : b.time ≤ 9223372036854775807) (h3 : 0 ≤ gap) (h4 : gap ≤ 9223372036854775807) : gap < b.time - a.time := by
  obtain ⟨x, y, g1, g2, g3, g4⟩ := h
  have q1 : cq x b ≤ 0 := (cq_tq x y b g2 g3).1
  have q2 : cq a y ≤ 0 := (cq_tq a x y g1 g2).1
  have px := pt_mid g1 q1 hp
  have py := pt_mid q2 g3 hp
  have t1 := (cq_le g1).2 px.symm
  have t2 := (cq_le g2).2 (px.trans py.symm)
  have t3 := (cq_le g3).2 (py.trans hp)
  unfold clB at g4
  rw [show sEq x.point y.point = true from by rw [px, py]; exact eq_self_s _, Bool.true_and, nr_iff (by omega) t2 (by omega) h3 h4, decide_eq_false_iff_not] at g4
  omega
theorem run_pt {gap : Int} {r : List Sen} (hr : RunOk gap r) : ∀ j, j < r.length → (ix r j).point = (ix r 0).point
  | 0, _ => rfl
  | j + 1, h => by
    have h1 := hr.c j h
    unfold clB at h1
    rw [Bool.and_eq_true] at h1
    rw [← sEq_eq h1.1]; exact run_pt hr j (by omega)
theorem run_in {gap : Int} {r : List Sen} {j : Nat} (hr : RunOk gap r) (h3 : 0 ≤ gap) (h4 : gap ≤ 9223372036854775807) (ht : ∀ x ∈ r, 0 ≤ x.time ∧ x.time ≤ 9223372036854775807) (h1 : 1 ≤ j) (h2 : j < r.length) :
    sEq (ix r j).point (ix r 0).point = true ∧ (ix r ((j : Int) - 1).toNat).time ≤ (ix r j).time ∧ (ix r j).time - (ix r ((j : Int) - 1).toNat).time ≤ gap := by
  obtain ⟨i, rfl⟩ : ∃ i, j = i + 1 := ⟨j - 1, by omega⟩
  rw [show (((i + 1 : Nat) : Int) - 1).toNat = i by omega]
  have hc := hr.c i h2
  unfold clB at hc
  rw [Bool.and_eq_true] at hc
  have hle := (cq_le (pw_ix hr.s (show i ≤ i + 1 by omega) h2)).2 (sEq_eq hc.1)
  have ha := ht _ (ix_mem (show i < r.length by omega))
  have hb := ht _ (ix_mem h2)
  rw [nr_iff ha.1 hle hb.2 h3 h4, decide_eq_true_eq] at hc
  exact ⟨by rw [run_pt hr (i + 1) h2]; exact eq_self_s _, hle, hc.2⟩

set_option maxHeartbeats 4000000 in
set_option maxRecDepth 100000 in
theorem cntC (l : List Sen) (s : Sen) (hl : l.length ≤ 1000) : Ctr Try.prog 27 [.sl 11 (List.map eSen l), .ag (eSen s)] (.d (.fl (.int .i64 (cnt l s)))) := by
  refine ctr (n := 22) (rs := #[.tmp 4]) (L := [(0, .d (.sl 11 (List.map eSen l))), (1, .d (.ag (eSen s)))]) Try.func27 rfl rfl rfl rfl rfl (fun w0 U0 => ?_)
  refine a_rseq ?_
  refine rg_nam (d := 3) (v := .pt 101 0) (m := 101) (nw := [(101, .bx 31 (eSen s))]) rfl (og rfl (of_eff (op_box 101 rfl rfl rfl rfl) rfl)) rfl ?_
  refine rg_put (d := 4) (v := .d (.fl (.int .i64 0))) rfl (og rfl (op_assign rfl rfl rfl)) ?_
  refine rg_done rfl ?_
  refine a_rseq ?_
  refine rg_put (d := 5) (v := .d (.fl (.int .i64 0))) rfl (og rfl (op_assign rfl rfl rfl)) ?_
  refine rg_done rfl ?_
  refine a_seq ?_
  refine a_rseq ?_
  refine rg_put (d := 6) (v := .d (.fl (.int .i64 0))) rfl (og rfl (op_assign rfl rfl rfl)) ?_
  refine rg_done rfl ?_
  refine a_block ?_
  refine a_loop (ι := Nat) (fun k => SS [(0, .d (.sl 11 (List.map eSen l))), (1, .d (.ag (eSen s))), (3, .pt 101 0), (4, .d (.fl (.int .i64 0))), (6, .d (.fl (.int .i64 (k : Int)))), (5, .d (.fl (.int .i64 (((cnK l s k) : Int)))))] [(101, .bx 31 (eSen s))]) (fun k => k ≤ l.length) (fun k => l.length - k) 0 (by omega) (imp_forget rfl ⟨rfl, rfl, rfl, rfl, rfl, (ci (by simp [cnK])), trivial⟩ ⟨rfl, trivial⟩) (fun k hok => ?_)
  have hk := hok
  have hcl := cnK_le l s k
  refine a_seq ?_
  refine a_rseq ?_
  refine rg_put (d := 7) (v := .d (.fl (.int .i64 (k : Int)))) rfl (og rfl (op_move rfl rfl rfl)) ?_
  refine rg_put (d := 8) (v := .d (.sl 11 (List.map eSen l))) rfl (og rfl (op_move rfl rfl rfl)) ?_
  refine rg_put (d := 9) (v := .d (.fl (.int .i64 (l.length : Int)))) rfl (og rfl (s_len rfl Try.underlying22 rfl rfl)) ?_
  refine rg_put (d := 10) (v := .d (.fl (.bool ((decide ((k : Int) < (l.length : Int))))))) rfl (og rfl (op_bin rfl rfl rfl (b_lss _ _ _ _) rfl)) ?_
  refine rg_done rfl ?_
  refine a_cond rfl (fun h1 => ?_) (fun h1 => ?_)
  · skip
    have h2 := t_dec h1
    refine a_skip ?_
    show A _ _ _ _ _ _ _
    refine a_seq ?_
    refine a_block ?_
    refine a_dseq (by kernel_rfl) ?_
    refine dr_put (d := 13) (v := .d (.sl 11 (List.map eSen l))) rfl (og rfl (op_move rfl rfl rfl)) ?_
    refine dr_put (d := 14) (v := .d (.fl (.int .i64 (k : Int)))) rfl (og rfl (op_move rfl rfl rfl)) ?_
    refine dr_put (d := 15) (v := .el ((eSen (ix l k)))) rfl (og rfl (s_index rfl Try.underlying22 ti31 rfl rfl (by omega) (row_at (by omega)) rfl)) ?_
    refine dr_put (d := 16) (v := .d (.ag (eSen (ix l k)))) rfl (og rfl (of_eff (s_load_els rfl Try.underlying31 rfl ti31 rfl rfl rfl) rfl)) ?_
    refine dr_put (d := 17) (v := .d (.ag (eSen s))) rfl (og rfl (of_eff (s_load_pts rfl Try.underlying31 rfl ti31 rfl rfl rfl rfl) rfl)) ?_
    refine dr_put (d := 18) (v := .d (.fl (.bool ((eS (ix l k) s))))) rfl (og rfl (op_eqS [.string (((ix l k).d).dev), .int .i64 (((ix l k).d).seq), .int .i64 (((ix l k).d).time), .string (((ix l k).d).tag), .string (((ix l k).d).plate), .int .i64 (((ix l k).d).axl), .int .i64 (((ix l k).d).score), .int .i64 ((ix l k).time), .string ((ix l k).point), .int .i64 ((ix l k).lane), .int .i64 ((ix l k).kind)] [.string s.d.dev, .int .i64 s.d.seq, .int .i64 s.d.time, .string s.d.tag, .string s.d.plate, .int .i64 s.d.axl, .int .i64 s.d.score, .int .i64 s.time, .string s.point, .int .i64 s.lane, .int .i64 s.kind] rfl rfl rfl (b := (eS (ix l k) s)) (fun ww => eqlG (ix l k) s _ _ ww) rfl)) ?_
    refine dr_done rfl (by kernel_rfl) (by kernel_rfl) ?_
    refine a_cond rfl (fun h3 => ?_) (fun h3 => ?_)
    · skip
      refine a_region ?_
      refine rg_put (d := 19) (v := .d (.fl (.int .i64 (((cnK l s k) : Int))))) rfl (og rfl (op_move rfl rfl rfl)) ?_
      refine rg_put (d := 20) (v := .d (.fl (.int .i64 ((((cnK l s k) : Int) + 1))))) rfl (og rfl (op_bin rfl rfl rfl (fun x y w => b_add64 _ _ _ x y w (by omega)) rfl)) ?_
      refine rg_put (d := 5) (v := .d (.fl (.int .i64 ((((cnK l s k) : Int) + 1))))) rfl (og rfl (op_assign rfl rfl rfl)) ?_
      refine rg_done rfl ?_
      show A _ _ _ _ _ _ _
      refine a_region ?_
      refine rg_put (d := 11) (v := .d (.fl (.int .i64 (k : Int)))) rfl (og rfl (op_move rfl rfl rfl)) ?_
      refine rg_put (d := 12) (v := .d (.fl (.int .i64 (((k : Int) + 1))))) rfl (og rfl (op_bin rfl rfl rfl (fun x y w => b_add64 _ _ _ x y w (by omega)) rfl)) ?_
      refine rg_put (d := 6) (v := .d (.fl (.int .i64 (((k : Int) + 1))))) rfl (og rfl (op_assign rfl rfl rfl)) ?_
      refine rg_done rfl ?_
      show ∃ i, _ ∧ _ ∧ Imp _ _ _ _ _
      refine ⟨k + 1, (by omega), by omega, imp_forget rfl ⟨rfl, rfl, rfl, rfl, (ci (by omega)), (ci (by have h9 := cnK_y (by omega) h3; omega)), trivial⟩ ⟨rfl, trivial⟩⟩
    · skip
      refine a_skip ?_
      show A _ _ _ _ _ _ _
      refine a_region ?_
      refine rg_put (d := 11) (v := .d (.fl (.int .i64 (k : Int)))) rfl (og rfl (op_move rfl rfl rfl)) ?_
      refine rg_put (d := 12) (v := .d (.fl (.int .i64 (((k : Int) + 1))))) rfl (og rfl (op_bin rfl rfl rfl (fun x y w => b_add64 _ _ _ x y w (by omega)) rfl)) ?_
      refine rg_put (d := 6) (v := .d (.fl (.int .i64 (((k : Int) + 1))))) rfl (og rfl (op_assign rfl rfl rfl)) ?_
      refine rg_done rfl ?_
      show ∃ i, _ ∧ _ ∧ Imp _ _ _ _ _
      refine ⟨k + 1, (by omega), by omega, imp_forget rfl ⟨rfl, rfl, rfl, rfl, (ci (by omega)), (ci (by have h9 := cnK_n (by omega) h3; omega)), trivial⟩ ⟨rfl, trivial⟩⟩
  · skip
    have h4 := f_dec h1
    refine a_exit ?_
    show A _ _ _ _ _ _ _
    refine a_rseq ?_
    refine rg_put (d := 21) (v := .d (.fl (.int .i64 (((cnK l s k) : Int))))) rfl (og rfl (op_move rfl rfl rfl)) ?_
    refine rg_put (d := 4) (v := .d (.fl (.int .i64 (((cnK l s k) : Int))))) rfl (og rfl (op_assign rfl rfl rfl)) ?_
    refine rg_done rfl ?_
    refine a_ret ?_
    show ∃ ds, ResL _ _ _ ds ∧ RV.of ds = _
    refine ⟨[.fl (.int .i64 (((cnK l s k) : Int)))], (.cons (.tmp rfl (.d _)) .nil), ?_⟩
    rw [show k = l.length by omega]; rfl
set_option maxHeartbeats 4000000 in
set_option maxRecDepth 100000 in
theorem apT (a b : List Sen) (gap : Int) (hla : a.length ≤ 1000) (hlb : b.length ≤ 1000) (hs : ∀ x ∈ a, ∀ y ∈ b, x.point = y.point → gap < max x.time y.time - min x.time y.time) (hta : ∀ x ∈ a, 0 ≤ x.time ∧ x.time ≤ 9223372036854775807) (htb : ∀ x ∈ b, 0 ≤ x.time ∧ x.time ≤ 9223372036854775807) : Ctr Try.prog 26 [.sl 11 (List.map eSen a), .sl 11 (List.map eSen b), .fl (.int .i64 gap)] (.d (.fl (.bool (true)))) := by
  refine ctr (n := 61) (rs := #[.tmp 6]) (L := [(0, .d (.sl 11 (List.map eSen a))), (1, .d (.sl 11 (List.map eSen b))), (2, .d (.fl (.int .i64 gap)))]) Try.func26 rfl rfl rfl rfl rfl (fun w0 U0 => ?_)
  refine a_rseq ?_
  refine rg_put (d := 6) (v := .d (.fl (.bool false))) rfl (og rfl (op_assign rfl rfl rfl)) ?_
  refine rg_done rfl ?_
  refine a_seq ?_
  refine a_rseq ?_
  refine rg_put (d := 7) (v := .d (.fl (.int .i64 0))) rfl (og rfl (op_assign rfl rfl rfl)) ?_
  refine rg_done rfl ?_
  refine a_block ?_
  refine a_loop (ι := Nat) (fun i => SS [(0, .d (.sl 11 (List.map eSen a))), (1, .d (.sl 11 (List.map eSen b))), (2, .d (.fl (.int .i64 gap))), (7, .d (.fl (.int .i64 (i : Int))))] []) (fun i => i ≤ a.length) (fun i => a.length - i) 0 (by omega) (imp_forget rfl ⟨rfl, rfl, rfl, rfl, trivial⟩ trivial) (fun i hok => ?_)
  have hi := hok
  refine a_seq ?_
  refine a_rseq ?_
  refine rg_put (d := 10) (v := .d (.fl (.int .i64 (i : Int)))) rfl (og rfl (op_move rfl rfl rfl)) ?_
  refine rg_put (d := 11) (v := .d (.sl 11 (List.map eSen a))) rfl (og rfl (op_move rfl rfl rfl)) ?_
  refine rg_put (d := 12) (v := .d (.fl (.int .i64 (a.length : Int)))) rfl (og rfl (s_len rfl Try.underlying22 rfl rfl)) ?_
  refine rg_put (d := 13) (v := .d (.fl (.bool ((decide ((i : Int) < (a.length : Int))))))) rfl (og rfl (op_bin rfl rfl rfl (b_lss _ _ _ _) rfl)) ?_
  refine rg_done rfl ?_
  refine a_cond rfl (fun h1 => ?_) (fun h1 => ?_)
  · skip
    have h2 := t_dec h1
    refine a_skip ?_
    show A _ _ _ _ _ _ _
    refine a_seq ?_
    refine a_block ?_
    refine a_rseq ?_
    refine rg_put (d := 8) (v := .d (.fl (.int .i64 0))) rfl (og rfl (op_assign rfl rfl rfl)) ?_
    refine rg_done rfl ?_
    refine a_block ?_
    refine a_loop (ι := Nat) (fun k => SS [(0, .d (.sl 11 (List.map eSen a))), (1, .d (.sl 11 (List.map eSen b))), (2, .d (.fl (.int .i64 gap))), (7, .d (.fl (.int .i64 (i : Int)))), (13, .d (.fl (.bool ((decide ((i : Int) < (a.length : Int))))))), (8, .d (.fl (.int .i64 (k : Int))))] []) (fun k => k ≤ b.length) (fun k => b.length - k) 0 (by omega) (imp_forget rfl ⟨rfl, rfl, rfl, rfl, rfl, rfl, trivial⟩ trivial) (fun k hok => ?_)
    have hk := hok
    refine a_seq ?_
    refine a_rseq ?_
    refine rg_put (d := 16) (v := .d (.fl (.int .i64 (k : Int)))) rfl (og rfl (op_move rfl rfl rfl)) ?_
    refine rg_put (d := 17) (v := .d (.sl 11 (List.map eSen b))) rfl (og rfl (op_move rfl rfl rfl)) ?_
    refine rg_put (d := 18) (v := .d (.fl (.int .i64 (b.length : Int)))) rfl (og rfl (s_len rfl Try.underlying22 rfl rfl)) ?_
    refine rg_put (d := 19) (v := .d (.fl (.bool ((decide ((k : Int) < (b.length : Int))))))) rfl (og rfl (op_bin rfl rfl rfl (b_lss _ _ _ _) rfl)) ?_
    refine rg_done rfl ?_
    refine a_cond rfl (fun h3 => ?_) (fun h3 => ?_)
    · skip
      have h4 := t_dec h3
      refine a_skip ?_
      show A _ _ _ _ _ _ _
      refine a_seq ?_
      refine a_block ?_
      refine a_dseq (by kernel_rfl) ?_
      have hxa := hta _ (ix_mem (by omega : i < a.length))
      have hxb := htb _ (ix_mem (by omega : k < b.length))
      refine dr_put (d := 22) (v := .d (.sl 11 (List.map eSen a))) rfl (og rfl (op_move rfl rfl rfl)) ?_
      refine dr_put (d := 23) (v := .d (.fl (.int .i64 (i : Int)))) rfl (og rfl (op_move rfl rfl rfl)) ?_
      refine dr_put (d := 24) (v := .el ((eSen (ix a i)))) rfl (og rfl (s_index rfl Try.underlying22 ti31 rfl rfl (by omega) (row_at (by omega)) rfl)) ?_
      refine dr_put (d := 25) (v := .el ((List.drop 7 ((eSen (ix a i)))))) rfl (og rfl (of_eff (s_field_el rfl Try.underlying31 rfl ti3 rfl rfl rfl) rfl)) ?_
      refine dr_put (d := 26) (v := .d (.fl (.int .i64 ((ix a i).time)))) rfl (og rfl (op_load_el rfl Try.underlying3 rfl rfl rfl rfl)) ?_
      refine dr_put (d := 27) (v := .d (.sl 11 (List.map eSen b))) rfl (og rfl (op_move rfl rfl rfl)) ?_
      refine dr_put (d := 28) (v := .d (.fl (.int .i64 (k : Int)))) rfl (og rfl (op_move rfl rfl rfl)) ?_
      refine dr_put (d := 29) (v := .el ((eSen (ix b k)))) rfl (og rfl (s_index rfl Try.underlying22 ti31 rfl rfl (by omega) (row_at (by omega)) rfl)) ?_
      refine dr_put (d := 30) (v := .el ((List.drop 7 ((eSen (ix b k)))))) rfl (og rfl (of_eff (s_field_el rfl Try.underlying31 rfl ti3 rfl rfl rfl) rfl)) ?_
      refine dr_put (d := 31) (v := .d (.fl (.int .i64 ((ix b k).time)))) rfl (og rfl (op_load_el rfl Try.underlying3 rfl rfl rfl rfl)) ?_
      refine dr_put (d := 32) (v := .d (.fl (.int .i64 ((max ((ix a i).time) ((ix b k).time)))))) rfl (og rfl (op_max rfl rfl rfl rfl)) ?_
      refine dr_put (d := 33) (v := .d (.sl 11 (List.map eSen a))) rfl (og rfl (op_move rfl rfl rfl)) ?_
      refine dr_put (d := 34) (v := .d (.fl (.int .i64 (i : Int)))) rfl (og rfl (op_move rfl rfl rfl)) ?_
      refine dr_put (d := 35) (v := .el ((eSen (ix a i)))) rfl (og rfl (s_index rfl Try.underlying22 ti31 rfl rfl (by omega) (row_at (by omega)) rfl)) ?_
      refine dr_put (d := 36) (v := .el ((List.drop 7 ((eSen (ix a i)))))) rfl (og rfl (of_eff (s_field_el rfl Try.underlying31 rfl ti3 rfl rfl rfl) rfl)) ?_
      refine dr_put (d := 37) (v := .d (.fl (.int .i64 ((ix a i).time)))) rfl (og rfl (op_load_el rfl Try.underlying3 rfl rfl rfl rfl)) ?_
      refine dr_put (d := 38) (v := .d (.sl 11 (List.map eSen b))) rfl (og rfl (op_move rfl rfl rfl)) ?_
      refine dr_put (d := 39) (v := .d (.fl (.int .i64 (k : Int)))) rfl (og rfl (op_move rfl rfl rfl)) ?_
      refine dr_put (d := 40) (v := .el ((eSen (ix b k)))) rfl (og rfl (s_index rfl Try.underlying22 ti31 rfl rfl (by omega) (row_at (by omega)) rfl)) ?_
      refine dr_put (d := 41) (v := .el ((List.drop 7 ((eSen (ix b k)))))) rfl (og rfl (of_eff (s_field_el rfl Try.underlying31 rfl ti3 rfl rfl rfl) rfl)) ?_
      refine dr_put (d := 42) (v := .d (.fl (.int .i64 ((ix b k).time)))) rfl (og rfl (op_load_el rfl Try.underlying3 rfl rfl rfl rfl)) ?_
      refine dr_put (d := 43) (v := .d (.fl (.int .i64 ((min ((ix a i).time) ((ix b k).time)))))) rfl (og rfl (op_min rfl rfl rfl rfl)) ?_
      refine dr_put (d := 44) (v := .d (.fl (.int .i64 (((max ((ix a i).time) ((ix b k).time)) - (min ((ix a i).time) ((ix b k).time))))))) rfl (og rfl (op_bin rfl rfl rfl (fun x y w => b_sub64 _ _ _ x y w (by omega)) rfl)) ?_
      refine dr_put (d := 9) (v := .d (.fl (.int .i64 (((max ((ix a i).time) ((ix b k).time)) - (min ((ix a i).time) ((ix b k).time))))))) rfl (og rfl (op_assign rfl rfl rfl)) ?_
      refine dr_done rfl (sepB_of [0, 0, 3, 7, 15, 0, 0, 96, 224, 480, 1023, 0, 0, 6144, 14336, 30720, 0, 0, 196608, 458752, 983040, 2095104, 4194303, 8388607] (by kernel_rfl)) (by kernel_rfl) ?_
      refine a_dseq (by kernel_rfl) ?_
      refine dr_put (d := 45) (v := .d (.sl 11 (List.map eSen a))) rfl (og rfl (op_move rfl rfl rfl)) ?_
      refine dr_put (d := 46) (v := .d (.fl (.int .i64 (i : Int)))) rfl (og rfl (op_move rfl rfl rfl)) ?_
      refine dr_put (d := 47) (v := .el ((eSen (ix a i)))) rfl (og rfl (s_index rfl Try.underlying22 ti31 rfl rfl (by omega) (row_at (by omega)) rfl)) ?_
      refine dr_put (d := 48) (v := .el ((List.drop 8 ((eSen (ix a i)))))) rfl (og rfl (of_eff (s_field_el rfl Try.underlying31 rfl ti9 rfl rfl rfl) rfl)) ?_
      refine dr_put (d := 49) (v := .d (.fl (.string ((ix a i).point)))) rfl (og rfl (op_load_el rfl Try.underlying9 rfl rfl rfl rfl)) ?_
      refine dr_put (d := 50) (v := .d (.sl 11 (List.map eSen b))) rfl (og rfl (op_move rfl rfl rfl)) ?_
      refine dr_put (d := 51) (v := .d (.fl (.int .i64 (k : Int)))) rfl (og rfl (op_move rfl rfl rfl)) ?_
      refine dr_put (d := 52) (v := .el ((eSen (ix b k)))) rfl (og rfl (s_index rfl Try.underlying22 ti31 rfl rfl (by omega) (row_at (by omega)) rfl)) ?_
      refine dr_put (d := 53) (v := .el ((List.drop 8 ((eSen (ix b k)))))) rfl (og rfl (of_eff (s_field_el rfl Try.underlying31 rfl ti9 rfl rfl rfl) rfl)) ?_
      refine dr_put (d := 54) (v := .d (.fl (.string ((ix b k).point)))) rfl (og rfl (op_load_el rfl Try.underlying9 rfl rfl rfl rfl)) ?_
      refine dr_put (d := 55) (v := .d (.fl (.bool ((sEq ((ix a i).point) ((ix b k).point)))))) rfl (og rfl (op_bin rfl rfl rfl (b_seq _ _ _) rfl)) ?_
      refine dr_put (d := 56) (v := .d (.fl (.bool ((sEq ((ix a i).point) ((ix b k).point)))))) rfl (og rfl (op_move rfl rfl rfl)) ?_
      rcases fot ((sEq ((ix a i).point) ((ix b k).point))) with h5 | h5
      · skip
        refine dr_put (d := 57) (v := .d (.fl undef)) rfl (on rfl rfl rfl h5) ?_
        refine dr_put (d := 58) (v := .d (.fl undef)) rfl (on rfl rfl rfl h5) ?_
        refine dr_put (d := 59) (v := .d (.fl undef)) rfl (on rfl rfl rfl h5) ?_
        refine dr_put (d := 60) (v := .d (.fl (.bool false))) rfl (og rfl (op_pick rfl rfl (by rw [h5]; rfl) rfl)) ?_
        refine dr_done rfl (sepB_of [0, 0, 3, 7, 15, 0, 0, 96, 224, 480, 1023, 2047, 4095, 4095, 16383, 32767] (by kernel_rfl)) (by kernel_rfl) ?_
        refine a_condF rfl rfl ?_
        refine a_skip ?_
        show A _ _ _ _ _ _ _
        refine a_region ?_
        refine rg_put (d := 20) (v := .d (.fl (.int .i64 (k : Int)))) rfl (og rfl (op_move rfl rfl rfl)) ?_
        refine rg_put (d := 21) (v := .d (.fl (.int .i64 (((k : Int) + 1))))) rfl (og rfl (op_bin rfl rfl rfl (fun x y w => b_add64 _ _ _ x y w (by omega)) rfl)) ?_
        refine rg_put (d := 8) (v := .d (.fl (.int .i64 (((k : Int) + 1))))) rfl (og rfl (op_assign rfl rfl rfl)) ?_
        refine rg_done rfl ?_
        show ∃ i, _ ∧ _ ∧ Imp _ _ _ _ _
        refine ⟨k + 1, (by omega), by omega, imp_forget rfl ⟨rfl, rfl, rfl, rfl, rfl, (ci (by omega)), trivial⟩ trivial⟩
      · skip
        refine dr_put (d := 57) (v := .d (.fl (.int .i64 (((max ((ix a i).time) ((ix b k).time)) - (min ((ix a i).time) ((ix b k).time))))))) rfl (oy rfl rfl rfl h5 (op_move rfl rfl rfl)) ?_
        refine dr_put (d := 58) (v := .d (.fl (.int .i64 gap))) rfl (oy rfl rfl rfl h5 (op_move rfl rfl rfl)) ?_
        refine dr_put (d := 59) (v := .d (.fl (.bool ((decide (((max ((ix a i).time) ((ix b k).time)) - (min ((ix a i).time) ((ix b k).time))) ≤ gap)))))) rfl (oy rfl rfl rfl h5 (op_bin rfl rfl rfl (b_leq _ _ _ _) rfl)) ?_
        refine dr_put (d := 60) (v := .d (.fl (.bool ((decide (((max ((ix a i).time) ((ix b k).time)) - (min ((ix a i).time) ((ix b k).time))) ≤ gap)))))) rfl (og rfl (op_pick rfl rfl (by rw [h5]; rfl) rfl)) ?_
        refine dr_done rfl (sepB_of [0, 0, 3, 7, 15, 0, 0, 96, 224, 480, 1023, 2047, 4095, 4095, 16383, 32767] (by kernel_rfl)) (by kernel_rfl) ?_
        refine a_condF rfl (show (decide (((max ((ix a i).time) ((ix b k).time)) - (min ((ix a i).time) ((ix b k).time))) ≤ gap)) = false from decide_eq_false (by have hsp := hs _ (ix_mem (by omega : i < a.length)) _ (ix_mem (by omega : k < b.length)) (sEq_eq (by assumption)); omega)) ?_
        refine a_skip ?_
        show A _ _ _ _ _ _ _
        refine a_region ?_
        refine rg_put (d := 20) (v := .d (.fl (.int .i64 (k : Int)))) rfl (og rfl (op_move rfl rfl rfl)) ?_
        refine rg_put (d := 21) (v := .d (.fl (.int .i64 (((k : Int) + 1))))) rfl (og rfl (op_bin rfl rfl rfl (fun x y w => b_add64 _ _ _ x y w (by omega)) rfl)) ?_
        refine rg_put (d := 8) (v := .d (.fl (.int .i64 (((k : Int) + 1))))) rfl (og rfl (op_assign rfl rfl rfl)) ?_
        refine rg_done rfl ?_
        show ∃ i, _ ∧ _ ∧ Imp _ _ _ _ _
        refine ⟨k + 1, (by omega), by omega, imp_forget rfl ⟨rfl, rfl, rfl, rfl, rfl, (ci (by omega)), trivial⟩ trivial⟩
    · skip
      have h6 := f_dec h3
      refine a_exit ?_
      show A _ _ _ _ _ _ _
      refine a_region ?_
      refine rg_put (d := 14) (v := .d (.fl (.int .i64 (i : Int)))) rfl (og rfl (op_move rfl rfl rfl)) ?_
      refine rg_put (d := 15) (v := .d (.fl (.int .i64 (((i : Int) + 1))))) rfl (og rfl (op_bin rfl rfl rfl (fun x y w => b_add64 _ _ _ x y w (by omega)) rfl)) ?_
      refine rg_put (d := 7) (v := .d (.fl (.int .i64 (((i : Int) + 1))))) rfl (og rfl (op_assign rfl rfl rfl)) ?_
      refine rg_done rfl ?_
      show ∃ i, _ ∧ _ ∧ Imp _ _ _ _ _
      refine ⟨i + 1, (by omega), by omega, imp_forget rfl ⟨rfl, rfl, rfl, (ci (by omega)), trivial⟩ trivial⟩
  · skip
    have h7 := f_dec h1
    refine a_exit ?_
    show A _ _ _ _ _ _ _
    refine a_rseq ?_
    refine rg_put (d := 6) (v := .d (.fl (.bool true))) rfl (og rfl (op_assign rfl rfl rfl)) ?_
    refine rg_done rfl ?_
    refine a_ret ?_
    show ∃ ds, ResL _ _ _ ds ∧ RV.of ds = _
    refine ⟨[.fl (.bool true)], (.cons (.tmp rfl (.d _)) .nil), ?_⟩
    rfl
theorem frm_tm {l : List Sen} {gap : Int} (hT : ∀ x ∈ l, 0 ≤ x.time ∧ x.time ≤ 9223372036854775807) {i : Nat} (h : i < (frm l gap).length) : ∀ x ∈ ix (frm l gap) i, 0 ≤ x.time ∧ x.time ≤ 9223372036854775807 := fun x hx => hT x ((frm_flat l gap).subset (List.mem_flatten.2 ⟨_, ix_mem h, hx⟩))
theorem frm_apart {l : List Sen} {gap : Int} (h3 : 0 ≤ gap) (h4 : gap ≤ 9223372036854775807) (hT : ∀ x ∈ l, 0 ≤ x.time ∧ x.time ≤ 9223372036854775807) {i q : Nat} (hi : i < (frm l gap).length) (hq : q < i) : ∀ x ∈ ix (frm l gap) i, ∀ y ∈ ix (frm l gap) q, x.point = y.point → gap < max x.time y.time - min x.time y.time := by
  intro x hx y hy hp
  have hpw := List.pairwise_iff_getElem.1 (frm_sep l gap) q i (by omega) hi hq
  rw [ix_eq (by omega), ix_eq hi] at hpw
  have tx := frm_tm hT hi x hx
  have ty := frm_tm hT (show q < (frm l gap).length by omega) y hy
  rcases hpw y hy x hx with h | h
  · have := sep_gap h hp.symm ty.1 tx.2 h3 h4; omega
  · have := sep_gap h hp tx.1 ty.2 h3 h4; omega
set_option maxHeartbeats 4000000 in
set_option maxRecDepth 100000 in
theorem law6 (l : List Sen) (gap : Int) (hT : ∀ x ∈ l, -9223372036854775808 ≤ x.time ∧ x.time ≤ 9223372036854775807) (hgr : gap ≤ 9223372036854775807) : Ctr Try.prog 6 [.sl 11 (List.map eSen l), .fl (.int .i64 gap)] (.d (.fl (.bool (true)))) := by
  refine ctr (n := 160) (rs := #[.tmp 4]) (L := [(0, .d (.sl 11 (List.map eSen l))), (1, .d (.fl (.int .i64 gap)))]) Try.func6 rfl rfl rfl rfl rfl (fun w0 U0 => ?_)
  refine a_rseq ?_
  refine rg_put (d := 4) (v := .d (.fl (.bool false))) rfl (og rfl (op_assign rfl rfl rfl)) ?_
  refine rg_done rfl ?_
  refine a_seq ?_
  refine a_rseq ?_
  refine rg_put (d := 12) (v := .d (.sl 11 (List.map eSen l))) rfl (og rfl (op_move rfl rfl rfl)) ?_
  refine rg_put (d := 13) (v := .d (.fl (.int .i64 (l.length : Int)))) rfl (og rfl (s_len rfl Try.underlying22 rfl rfl)) ?_
  refine rg_put (d := 14) (v := .d (.fl (.bool ((decide (40 < (l.length : Int))))))) rfl (og rfl (op_bin rfl rfl rfl (b_gtr _ _ _ _) rfl)) ?_
  refine rg_put (d := 15) (v := .d (.fl (.bool ((decide (40 < (l.length : Int))))))) rfl (og rfl (op_move rfl rfl rfl)) ?_
  rcases fot ((decide (40 < (l.length : Int)))) with h1 | h1
  · skip
    have h2 := f_dec h1
    refine rg_put (d := 16) (v := .d (.fl (.int .i64 gap))) rfl (oy rfl rfl rfl h1 (op_move rfl rfl rfl)) ?_
    refine rg_put (d := 17) (v := .d (.fl (.bool ((decide (gap < 0)))))) rfl (oy rfl rfl rfl h1 (op_bin rfl rfl rfl (b_lss _ _ _ _) rfl)) ?_
    refine rg_put (d := 18) (v := .d (.fl (.bool ((decide (gap < 0)))))) rfl (og rfl (op_pick rfl rfl (by rw [h1]; rfl) rfl)) ?_
    refine rg_done rfl ?_
    refine a_cond rfl (fun h3 => ?_) (fun h3 => ?_)
    · skip
      have h4 := t_dec h3
      refine a_rseq ?_
      refine rg_put (d := 4) (v := .d (.fl (.bool true))) rfl (og rfl (op_assign rfl rfl rfl)) ?_
      refine rg_done rfl ?_
      refine a_ret ?_
      show ∃ ds, ResL _ _ _ ds ∧ RV.of ds = _
      refine ⟨[.fl (.bool true)], (.cons (.tmp rfl (.d _)) .nil), ?_⟩
      rfl
    · skip
      have h5 := f_dec h3
      refine a_skip ?_
      show A _ _ _ _ _ _ _
      refine a_seq ?_
      refine a_rseq ?_
      refine rg_put (d := 5) (v := .d (.fl (.int .i64 0))) rfl (og rfl (op_assign rfl rfl rfl)) ?_
      refine rg_done rfl ?_
      refine a_block ?_
      refine a_loop (ι := Nat) (fun k => SS [(0, .d (.sl 11 (List.map eSen l))), (1, .d (.fl (.int .i64 gap))), (18, .d (.fl (.bool ((decide (gap < 0)))))), (5, .d (.fl (.int .i64 (k : Int))))] []) (fun k => k ≤ l.length ∧ ∀ q, q < k → ¬ (ix l q).time < 0) (fun k => l.length - k) 0 (⟨by omega, fun q h => absurd h (Nat.not_lt_zero _)⟩) (imp_forget rfl ⟨rfl, rfl, rfl, rfl, trivial⟩ trivial) (fun k hok => ?_)
      obtain ⟨hk, hq⟩ := hok
      refine a_seq ?_
      refine a_rseq ?_
      refine rg_put (d := 19) (v := .d (.fl (.int .i64 (k : Int)))) rfl (og rfl (op_move rfl rfl rfl)) ?_
      refine rg_put (d := 20) (v := .d (.sl 11 (List.map eSen l))) rfl (og rfl (op_move rfl rfl rfl)) ?_
      refine rg_put (d := 21) (v := .d (.fl (.int .i64 (l.length : Int)))) rfl (og rfl (s_len rfl Try.underlying22 rfl rfl)) ?_
      refine rg_put (d := 22) (v := .d (.fl (.bool ((decide ((k : Int) < (l.length : Int))))))) rfl (og rfl (op_bin rfl rfl rfl (b_lss _ _ _ _) rfl)) ?_
      refine rg_done rfl ?_
      refine a_cond rfl (fun h6 => ?_) (fun h6 => ?_)
      · skip
        have h7 := t_dec h6
        refine a_skip ?_
        show A _ _ _ _ _ _ _
        refine a_seq ?_
        refine a_block ?_
        refine a_rseq ?_
        refine rg_put (d := 25) (v := .d (.sl 11 (List.map eSen l))) rfl (og rfl (op_move rfl rfl rfl)) ?_
        refine rg_put (d := 26) (v := .d (.fl (.int .i64 (k : Int)))) rfl (og rfl (op_move rfl rfl rfl)) ?_
        refine rg_put (d := 27) (v := .el ((eSen (ix l k)))) rfl (og rfl (s_index rfl Try.underlying22 ti31 rfl rfl (by omega) (row_at (by omega)) rfl)) ?_
        refine rg_put (d := 28) (v := .el ((List.drop 7 ((eSen (ix l k)))))) rfl (og rfl (of_eff (s_field_el rfl Try.underlying31 rfl ti3 rfl rfl rfl) rfl)) ?_
        refine rg_put (d := 29) (v := .d (.fl (.int .i64 ((ix l k).time)))) rfl (og rfl (op_load_el rfl Try.underlying3 rfl rfl rfl rfl)) ?_
        refine rg_put (d := 30) (v := .d (.fl (.bool ((decide ((ix l k).time < 0)))))) rfl (og rfl (op_bin rfl rfl rfl (b_lss _ _ _ _) rfl)) ?_
        refine rg_done rfl ?_
        refine a_cond rfl (fun h8 => ?_) (fun h8 => ?_)
        · skip
          have h9 := t_dec h8
          refine a_rseq ?_
          refine rg_put (d := 4) (v := .d (.fl (.bool true))) rfl (og rfl (op_assign rfl rfl rfl)) ?_
          refine rg_done rfl ?_
          refine a_ret ?_
          show ∃ ds, ResL _ _ _ ds ∧ RV.of ds = _
          refine ⟨[.fl (.bool true)], (.cons (.tmp rfl (.d _)) .nil), ?_⟩
          rfl
        · skip
          have h10 := f_dec h8
          refine a_skip ?_
          show A _ _ _ _ _ _ _
          refine a_region ?_
          refine rg_put (d := 23) (v := .d (.fl (.int .i64 (k : Int)))) rfl (og rfl (op_move rfl rfl rfl)) ?_
          refine rg_put (d := 24) (v := .d (.fl (.int .i64 (((k : Int) + 1))))) rfl (og rfl (op_bin rfl rfl rfl (fun x y w => b_add64 _ _ _ x y w (by omega)) rfl)) ?_
          refine rg_put (d := 5) (v := .d (.fl (.int .i64 (((k : Int) + 1))))) rfl (og rfl (op_assign rfl rfl rfl)) ?_
          refine rg_done rfl ?_
          have hx : ¬ (ix l k).time < 0 := by omega
          show ∃ i, _ ∧ _ ∧ Imp _ _ _ _ _
          refine ⟨k + 1, ⟨by omega, fun q h => (Nat.lt_succ_iff_lt_or_eq.1 h).elim (hq q) (fun e => by rw [e]; exact hx)⟩, (by (show l.length - (k + 1) < l.length - k); omega), imp_forget rfl ⟨rfl, rfl, rfl, (ci (by omega)), trivial⟩ trivial⟩
      · skip
        have h11 := f_dec h6
        refine a_exit ?_
        show A _ _ _ _ _ _ _
        refine a_rseq ?_
        have hT0 : ∀ x ∈ l, 0 ≤ x.time ∧ x.time ≤ 9223372036854775807 := fun x hx => by obtain ⟨q, h1, rfl⟩ := mem_ix hx; have h5 := hq q (by omega); have h6 := hT _ hx; omega
        have hg0 : 0 ≤ gap := by omega
        refine rg_put (d := 31) (v := .d (.sl 11 (List.map eSen l))) rfl (og rfl (op_move rfl rfl rfl)) ?_
        refine rg_put (d := 32) (v := .d (.fl (.int .i64 gap))) rfl (og rfl (op_move rfl rfl rfl)) ?_
        refine rg_put (d := 33) (v := .d (.sl 1 (List.map (rL 11 eSen) (frm l gap)))) rfl (og rfl (op_call rfl Try.func11 nm11 rfl (.cons rfl (.d _) (.cons rfl (.d _) .nil)) (frm11 l gap (by omega)) rfl)) ?_
        refine rg_put (d := 6) (v := .d (.sl 1 (List.map (rL 11 eSen) (frm l gap)))) rfl (og rfl (op_assign rfl rfl rfl)) ?_
        refine rg_done rfl ?_
        refine a_rseq ?_
        refine rg_put (d := 7) (v := .d (.fl (.slice none 0 0))) rfl (og rfl (op_assign rfl rfl rfl)) ?_
        refine rg_done rfl ?_
        refine a_seq ?_
        refine a_rseq ?_
        refine rg_imp (imp_nilT 7 101 31 11 rfl rfl) ?_
        have hFl := frm_len l gap
        have hFf := frm_fl_len l gap
        refine rg_put (d := 8) (v := .d (.fl (.int .i64 0))) rfl (og rfl (op_assign rfl rfl rfl)) ?_
        refine rg_done rfl ?_
        refine a_block ?_
        refine a_loop (ι := Nat) (fun i => SS [(0, .d (.sl 11 (List.map eSen l))), (1, .d (.fl (.int .i64 gap))), (5, .d (.fl (.int .i64 (k : Int)))), (6, .d (.sl 1 (List.map (rL 11 eSen) (frm l gap)))), (18, .d (.fl (.bool ((decide (gap < 0)))))), (22, .d (.fl (.bool ((decide ((k : Int) < (l.length : Int))))))), (8, .d (.fl (.int .i64 (i : Int)))), (7, .ow 101)] [(101, .tr 31 11 (tD eSen ((((frm l gap).take i).flatten))))]) (fun i => i ≤ (frm l gap).length) (fun i => (frm l gap).length - i) 0 (by omega) (imp_forget rfl ⟨rfl, rfl, rfl, rfl, rfl, rfl, rfl, rfl, trivial⟩ ⟨rfl, trivial⟩) (fun i hok => ?_)
        have hi := hok
        have hfl := fl_le (frm l gap) i
        refine a_seq ?_
        refine a_rseq ?_
        refine rg_put (d := 34) (v := .d (.fl (.int .i64 (i : Int)))) rfl (og rfl (op_move rfl rfl rfl)) ?_
        refine rg_put (d := 35) (v := .d (.sl 1 (List.map (rL 11 eSen) (frm l gap)))) rfl (og rfl (op_move rfl rfl rfl)) ?_
        refine rg_put (d := 36) (v := .d (.fl (.int .i64 (((frm l gap).length : Int))))) rfl (og rfl (s_len rfl Try.underlying24 rfl rfl)) ?_
        refine rg_put (d := 37) (v := .d (.fl (.bool ((decide ((i : Int) < ((frm l gap).length : Int))))))) rfl (og rfl (op_bin rfl rfl rfl (b_lss _ _ _ _) rfl)) ?_
        refine rg_done rfl ?_
        refine a_cond rfl (fun h12 => ?_) (fun h12 => ?_)
        · skip
          have h13 := t_dec h12
          refine a_skip ?_
          show A _ _ _ _ _ _ _
          refine a_seq ?_
          refine a_block ?_
          refine a_rseq ?_
          have hrun := frm_run (ix_mem (by omega : i < (frm l gap).length))
          have hne := hrun.1.ne
          have hfl2 := fl_le (frm l gap) (i + 1)
          rw [← fl_s (by omega), List.length_append] at hfl2
          refine rg_put (d := 40) (v := .ow 101) rfl (og rfl (op_move rfl rfl rfl)) ?_
          refine rg_put (d := 41) (v := .d (.sl 1 (List.map (rL 11 eSen) (frm l gap)))) rfl (og rfl (op_move rfl rfl rfl)) ?_
          refine rg_put (d := 42) (v := .d (.fl (.int .i64 (i : Int)))) rfl (og rfl (op_move rfl rfl rfl)) ?_
          refine rg_put (d := 43) (v := .el (((rL 11 eSen) ((ix (frm l gap) i))))) rfl (og rfl (s_index rfl Try.underlying24 ti22 rfl rfl (by omega) (row_at (by omega)) rfl)) ?_
          refine rg_put (d := 44) (v := .d (.sl 11 (List.map eSen ((ix (frm l gap) i))))) rfl (og rfl (op_load_el rfl Try.underlying22 rfl rfl rfl rfl)) ?_
          refine rg_nam (d := 45) (v := .ow 102) (m := 102) (nw := [(102, .tr 31 11 (tD eSen (((((frm l gap).take i).flatten) ++ (ix (frm l gap) i))))), (101, .no)]) rfl (og rfl (of_eff (s_append_td 102 rfl Try.underlying22 ti31 rfl rfl rfl rfl rfl (.d _) (by omega) rfl) rfl)) rfl ?_
          refine rg_put (d := 7) (v := .ow 102) rfl (og rfl (op_assign rfl rfl rfl)) ?_
          refine rg_done rfl ?_
          refine a_seq ?_
          refine a_rseq ?_
          refine rg_put (d := 46) (v := .d (.sl 1 (List.map (rL 11 eSen) (frm l gap)))) rfl (og rfl (op_move rfl rfl rfl)) ?_
          refine rg_put (d := 47) (v := .d (.fl (.int .i64 (i : Int)))) rfl (og rfl (op_move rfl rfl rfl)) ?_
          refine rg_put (d := 48) (v := .el (((rL 11 eSen) ((ix (frm l gap) i))))) rfl (og rfl (s_index rfl Try.underlying24 ti22 rfl rfl (by omega) (row_at (by omega)) rfl)) ?_
          refine rg_put (d := 49) (v := .d (.sl 11 (List.map eSen ((ix (frm l gap) i))))) rfl (og rfl (op_load_el rfl Try.underlying22 rfl rfl rfl rfl)) ?_
          refine rg_put (d := 50) (v := .d (.fl (.int .i64 ((((ix (frm l gap) i)).length : Int))))) rfl (og rfl (s_len rfl Try.underlying22 rfl rfl)) ?_
          refine rg_put (d := 51) (v := .d (.fl (.bool (((((ix (frm l gap) i)).length : Int) == 0))))) rfl (og rfl (op_bin rfl rfl rfl (b_eql _ _ _ _) rfl)) ?_
          refine rg_done rfl ?_
          refine a_condF rfl (show ((((ix (frm l gap) i)).length : Int) == 0) = false from by simpa using hne) ?_
          refine a_skip ?_
          show A _ _ _ _ _ _ _
          refine a_seq ?_
          refine a_rseq ?_
          refine rg_put (d := 9) (v := .d (.fl (.int .i64 1))) rfl (og rfl (op_assign rfl rfl rfl)) ?_
          refine rg_done rfl ?_
          refine a_block ?_
          refine a_loop (ι := Nat) (fun j => SS [(0, .d (.sl 11 (List.map eSen l))), (1, .d (.fl (.int .i64 gap))), (5, .d (.fl (.int .i64 (k : Int)))), (6, .d (.sl 1 (List.map (rL 11 eSen) (frm l gap)))), (7, .ow 102), (8, .d (.fl (.int .i64 (i : Int)))), (18, .d (.fl (.bool ((decide (gap < 0)))))), (22, .d (.fl (.bool ((decide ((k : Int) < (l.length : Int))))))), (37, .d (.fl (.bool ((decide ((i : Int) < ((frm l gap).length : Int))))))), (51, .d (.fl (.bool (((((ix (frm l gap) i)).length : Int) == 0))))), (9, .d (.fl (.int .i64 (j : Int))))] [(102, .tr 31 11 (tD eSen (((((frm l gap).take i).flatten) ++ (ix (frm l gap) i)))))]) (fun j => 1 ≤ j ∧ j ≤ (ix (frm l gap) i).length) (fun j => (ix (frm l gap) i).length - j) 1 (⟨by omega, by omega⟩) (imp_forget rfl ⟨rfl, rfl, rfl, rfl, rfl, rfl, rfl, rfl, rfl, rfl, rfl, trivial⟩ ⟨rfl, trivial⟩) (fun j hok => ?_)
          obtain ⟨hj1, hj⟩ := hok
          refine a_seq ?_
          refine a_rseq ?_
          refine rg_put (d := 52) (v := .d (.fl (.int .i64 (j : Int)))) rfl (og rfl (op_move rfl rfl rfl)) ?_
          refine rg_put (d := 53) (v := .d (.sl 1 (List.map (rL 11 eSen) (frm l gap)))) rfl (og rfl (op_move rfl rfl rfl)) ?_
          refine rg_put (d := 54) (v := .d (.fl (.int .i64 (i : Int)))) rfl (og rfl (op_move rfl rfl rfl)) ?_
          refine rg_put (d := 55) (v := .el (((rL 11 eSen) ((ix (frm l gap) i))))) rfl (og rfl (s_index rfl Try.underlying24 ti22 rfl rfl (by omega) (row_at (by omega)) rfl)) ?_
          refine rg_put (d := 56) (v := .d (.sl 11 (List.map eSen ((ix (frm l gap) i))))) rfl (og rfl (op_load_el rfl Try.underlying22 rfl rfl rfl rfl)) ?_
          refine rg_put (d := 57) (v := .d (.fl (.int .i64 ((((ix (frm l gap) i)).length : Int))))) rfl (og rfl (s_len rfl Try.underlying22 rfl rfl)) ?_
          refine rg_put (d := 58) (v := .d (.fl (.bool ((decide ((j : Int) < (((ix (frm l gap) i)).length : Int))))))) rfl (og rfl (op_bin rfl rfl rfl (b_lss _ _ _ _) rfl)) ?_
          refine rg_done rfl ?_
          refine a_cond rfl (fun h14 => ?_) (fun h14 => ?_)
          · skip
            have h15 := t_dec h14
            refine a_skip ?_
            show A _ _ _ _ _ _ _
            refine a_seq ?_
            refine a_block ?_
            refine a_dseq (by kernel_rfl) ?_
            have hjn := run_in hrun.1 hg0 hgr (frm_tm hT0 (by omega)) hj1 (by omega)
            have htj := frm_tm hT0 (by omega : i < (frm l gap).length) _ (ix_mem (by omega : j < (ix (frm l gap) i).length))
            have htj1 := frm_tm hT0 (by omega : i < (frm l gap).length) _ (ix_mem (by omega : ((j : Int) - 1).toNat < (ix (frm l gap) i).length))
            refine dr_put (d := 61) (v := .d (.sl 1 (List.map (rL 11 eSen) (frm l gap)))) rfl (og rfl (op_move rfl rfl rfl)) ?_
            refine dr_put (d := 62) (v := .d (.fl (.int .i64 (i : Int)))) rfl (og rfl (op_move rfl rfl rfl)) ?_
            refine dr_put (d := 63) (v := .el (((rL 11 eSen) ((ix (frm l gap) i))))) rfl (og rfl (s_index rfl Try.underlying24 ti22 rfl rfl (by omega) (row_at (by omega)) rfl)) ?_
            refine dr_put (d := 64) (v := .d (.sl 11 (List.map eSen ((ix (frm l gap) i))))) rfl (og rfl (op_load_el rfl Try.underlying22 rfl rfl rfl rfl)) ?_
            refine dr_put (d := 65) (v := .d (.fl (.int .i64 (j : Int)))) rfl (og rfl (op_move rfl rfl rfl)) ?_
            refine dr_put (d := 66) (v := .el ((eSen ((ix ((ix (frm l gap) i)) j))))) rfl (og rfl (s_index rfl Try.underlying22 ti31 rfl rfl (by omega) (row_at (by omega)) rfl)) ?_
            refine dr_put (d := 67) (v := .el ((List.drop 8 ((eSen ((ix ((ix (frm l gap) i)) j))))))) rfl (og rfl (of_eff (s_field_el rfl Try.underlying31 rfl ti9 rfl rfl rfl) rfl)) ?_
            refine dr_put (d := 68) (v := .d (.fl (.string (((ix ((ix (frm l gap) i)) j)).point)))) rfl (og rfl (op_load_el rfl Try.underlying9 rfl rfl rfl rfl)) ?_
            refine dr_put (d := 69) (v := .d (.sl 1 (List.map (rL 11 eSen) (frm l gap)))) rfl (og rfl (op_move rfl rfl rfl)) ?_
            refine dr_put (d := 70) (v := .d (.fl (.int .i64 (i : Int)))) rfl (og rfl (op_move rfl rfl rfl)) ?_
            refine dr_put (d := 71) (v := .el (((rL 11 eSen) ((ix (frm l gap) i))))) rfl (og rfl (s_index rfl Try.underlying24 ti22 rfl rfl (by omega) (row_at (by omega)) rfl)) ?_
            refine dr_put (d := 72) (v := .d (.sl 11 (List.map eSen ((ix (frm l gap) i))))) rfl (og rfl (op_load_el rfl Try.underlying22 rfl rfl rfl rfl)) ?_
            refine dr_put (d := 73) (v := .el ((eSen ((ix ((ix (frm l gap) i)) 0))))) rfl (og rfl (s_index rfl Try.underlying22 ti31 rfl rfl (by omega) (row_at (by omega)) rfl)) ?_
            refine dr_put (d := 74) (v := .el ((List.drop 8 ((eSen ((ix ((ix (frm l gap) i)) 0))))))) rfl (og rfl (of_eff (s_field_el rfl Try.underlying31 rfl ti9 rfl rfl rfl) rfl)) ?_
            refine dr_put (d := 75) (v := .d (.fl (.string (((ix ((ix (frm l gap) i)) 0)).point)))) rfl (og rfl (op_load_el rfl Try.underlying9 rfl rfl rfl rfl)) ?_
            refine dr_put (d := 76) (v := .d (.fl (.bool ((!(sEq (((ix ((ix (frm l gap) i)) j)).point) (((ix ((ix (frm l gap) i)) 0)).point))))))) rfl (og rfl (op_bin rfl rfl rfl (b_sne _ _ _) rfl)) ?_
            refine dr_put (d := 77) (v := .d (.fl (.bool ((!(sEq (((ix ((ix (frm l gap) i)) j)).point) (((ix ((ix (frm l gap) i)) 0)).point))))))) rfl (og rfl (op_move rfl rfl rfl)) ?_
            refine dr_put (d := 78) (v := .d (.sl 1 (List.map (rL 11 eSen) (frm l gap)))) rfl (oy rfl rfl rfl (not_f hjn.1) (op_move rfl rfl rfl)) ?_
            refine dr_put (d := 79) (v := .d (.fl (.int .i64 (i : Int)))) rfl (oy rfl rfl rfl (not_f hjn.1) (op_move rfl rfl rfl)) ?_
            refine dr_put (d := 80) (v := .el (((rL 11 eSen) ((ix (frm l gap) i))))) rfl (oy rfl rfl rfl (not_f hjn.1) (s_index rfl Try.underlying24 ti22 rfl rfl (by omega) (row_at (by omega)) rfl)) ?_
            refine dr_put (d := 81) (v := .d (.sl 11 (List.map eSen ((ix (frm l gap) i))))) rfl (oy rfl rfl rfl (not_f hjn.1) (op_load_el rfl Try.underlying22 rfl rfl rfl rfl)) ?_
            refine dr_put (d := 82) (v := .d (.fl (.int .i64 (j : Int)))) rfl (oy rfl rfl rfl (not_f hjn.1) (op_move rfl rfl rfl)) ?_
            refine dr_put (d := 83) (v := .el ((eSen ((ix ((ix (frm l gap) i)) j))))) rfl (oy rfl rfl rfl (not_f hjn.1) (s_index rfl Try.underlying22 ti31 rfl rfl (by omega) (row_at (by omega)) rfl)) ?_
            refine dr_put (d := 84) (v := .el ((List.drop 7 ((eSen ((ix ((ix (frm l gap) i)) j))))))) rfl (oy rfl rfl rfl (not_f hjn.1) (of_eff (s_field_el rfl Try.underlying31 rfl ti3 rfl rfl rfl) rfl)) ?_
            refine dr_put (d := 85) (v := .d (.fl (.int .i64 (((ix ((ix (frm l gap) i)) j)).time)))) rfl (oy rfl rfl rfl (not_f hjn.1) (op_load_el rfl Try.underlying3 rfl rfl rfl rfl)) ?_
            refine dr_put (d := 86) (v := .d (.sl 1 (List.map (rL 11 eSen) (frm l gap)))) rfl (oy rfl rfl rfl (not_f hjn.1) (op_move rfl rfl rfl)) ?_
            refine dr_put (d := 87) (v := .d (.fl (.int .i64 (i : Int)))) rfl (oy rfl rfl rfl (not_f hjn.1) (op_move rfl rfl rfl)) ?_
            refine dr_put (d := 88) (v := .el (((rL 11 eSen) ((ix (frm l gap) i))))) rfl (oy rfl rfl rfl (not_f hjn.1) (s_index rfl Try.underlying24 ti22 rfl rfl (by omega) (row_at (by omega)) rfl)) ?_
            refine dr_put (d := 89) (v := .d (.sl 11 (List.map eSen ((ix (frm l gap) i))))) rfl (oy rfl rfl rfl (not_f hjn.1) (op_load_el rfl Try.underlying22 rfl rfl rfl rfl)) ?_
            refine dr_put (d := 90) (v := .d (.fl (.int .i64 (j : Int)))) rfl (oy rfl rfl rfl (not_f hjn.1) (op_move rfl rfl rfl)) ?_
            refine dr_put (d := 91) (v := .d (.fl (.int .i64 (((j : Int) - 1))))) rfl (oy rfl rfl rfl (not_f hjn.1) (op_bin rfl rfl rfl (fun x y w => b_sub64 _ _ _ x y w (by omega)) rfl)) ?_
            refine dr_put (d := 92) (v := .el ((eSen ((ix ((ix (frm l gap) i)) (((j : Int) - 1)).toNat))))) rfl (oy rfl rfl rfl (not_f hjn.1) (s_index rfl Try.underlying22 ti31 rfl rfl (by omega) (row_atI (by omega) (by omega)) rfl)) ?_
            refine dr_put (d := 93) (v := .el ((List.drop 7 ((eSen ((ix ((ix (frm l gap) i)) (((j : Int) - 1)).toNat))))))) rfl (oy rfl rfl rfl (not_f hjn.1) (of_eff (s_field_el rfl Try.underlying31 rfl ti3 rfl rfl rfl) rfl)) ?_
            refine dr_put (d := 94) (v := .d (.fl (.int .i64 (((ix ((ix (frm l gap) i)) (((j : Int) - 1)).toNat)).time)))) rfl (oy rfl rfl rfl (not_f hjn.1) (op_load_el rfl Try.underlying3 rfl rfl rfl rfl)) ?_
            refine dr_put (d := 95) (v := .d (.fl (.bool ((decide (((ix ((ix (frm l gap) i)) j)).time < ((ix ((ix (frm l gap) i)) (((j : Int) - 1)).toNat)).time)))))) rfl (oy rfl rfl rfl (not_f hjn.1) (op_bin rfl rfl rfl (b_lss _ _ _ _) rfl)) ?_
            refine dr_put (d := 96) (v := .d (.fl (.bool ((decide (((ix ((ix (frm l gap) i)) j)).time < ((ix ((ix (frm l gap) i)) (((j : Int) - 1)).toNat)).time)))))) rfl (og rfl (op_pick rfl rfl (by rw [(not_f hjn.1)]; rfl) rfl)) ?_
            refine dr_put (d := 97) (v := .d (.fl (.bool ((decide (((ix ((ix (frm l gap) i)) j)).time < ((ix ((ix (frm l gap) i)) (((j : Int) - 1)).toNat)).time)))))) rfl (og rfl (op_move rfl rfl rfl)) ?_
            refine dr_put (d := 98) (v := .d (.sl 1 (List.map (rL 11 eSen) (frm l gap)))) rfl (oy rfl rfl rfl (show (decide (((ix ((ix (frm l gap) i)) j)).time < ((ix ((ix (frm l gap) i)) (((j : Int) - 1)).toNat)).time)) = false from decide_eq_false (by omega)) (op_move rfl rfl rfl)) ?_
            refine dr_put (d := 99) (v := .d (.fl (.int .i64 (i : Int)))) rfl (oy rfl rfl rfl (show (decide (((ix ((ix (frm l gap) i)) j)).time < ((ix ((ix (frm l gap) i)) (((j : Int) - 1)).toNat)).time)) = false from decide_eq_false (by omega)) (op_move rfl rfl rfl)) ?_
            refine dr_put (d := 100) (v := .el (((rL 11 eSen) ((ix (frm l gap) i))))) rfl (oy rfl rfl rfl (show (decide (((ix ((ix (frm l gap) i)) j)).time < ((ix ((ix (frm l gap) i)) (((j : Int) - 1)).toNat)).time)) = false from decide_eq_false (by omega)) (s_index rfl Try.underlying24 ti22 rfl rfl (by omega) (row_at (by omega)) rfl)) ?_
            refine dr_put (d := 101) (v := .d (.sl 11 (List.map eSen ((ix (frm l gap) i))))) rfl (oy rfl rfl rfl (show (decide (((ix ((ix (frm l gap) i)) j)).time < ((ix ((ix (frm l gap) i)) (((j : Int) - 1)).toNat)).time)) = false from decide_eq_false (by omega)) (op_load_el rfl Try.underlying22 rfl rfl rfl rfl)) ?_
            refine dr_put (d := 102) (v := .d (.fl (.int .i64 (j : Int)))) rfl (oy rfl rfl rfl (show (decide (((ix ((ix (frm l gap) i)) j)).time < ((ix ((ix (frm l gap) i)) (((j : Int) - 1)).toNat)).time)) = false from decide_eq_false (by omega)) (op_move rfl rfl rfl)) ?_
            refine dr_put (d := 103) (v := .el ((eSen ((ix ((ix (frm l gap) i)) j))))) rfl (oy rfl rfl rfl (show (decide (((ix ((ix (frm l gap) i)) j)).time < ((ix ((ix (frm l gap) i)) (((j : Int) - 1)).toNat)).time)) = false from decide_eq_false (by omega)) (s_index rfl Try.underlying22 ti31 rfl rfl (by omega) (row_at (by omega)) rfl)) ?_
            refine dr_put (d := 104) (v := .el ((List.drop 7 ((eSen ((ix ((ix (frm l gap) i)) j))))))) rfl (oy rfl rfl rfl (show (decide (((ix ((ix (frm l gap) i)) j)).time < ((ix ((ix (frm l gap) i)) (((j : Int) - 1)).toNat)).time)) = false from decide_eq_false (by omega)) (of_eff (s_field_el rfl Try.underlying31 rfl ti3 rfl rfl rfl) rfl)) ?_
            refine dr_put (d := 105) (v := .d (.fl (.int .i64 (((ix ((ix (frm l gap) i)) j)).time)))) rfl (oy rfl rfl rfl (show (decide (((ix ((ix (frm l gap) i)) j)).time < ((ix ((ix (frm l gap) i)) (((j : Int) - 1)).toNat)).time)) = false from decide_eq_false (by omega)) (op_load_el rfl Try.underlying3 rfl rfl rfl rfl)) ?_
            refine dr_put (d := 106) (v := .d (.sl 1 (List.map (rL 11 eSen) (frm l gap)))) rfl (oy rfl rfl rfl (show (decide (((ix ((ix (frm l gap) i)) j)).time < ((ix ((ix (frm l gap) i)) (((j : Int) - 1)).toNat)).time)) = false from decide_eq_false (by omega)) (op_move rfl rfl rfl)) ?_
            refine dr_put (d := 107) (v := .d (.fl (.int .i64 (i : Int)))) rfl (oy rfl rfl rfl (show (decide (((ix ((ix (frm l gap) i)) j)).time < ((ix ((ix (frm l gap) i)) (((j : Int) - 1)).toNat)).time)) = false from decide_eq_false (by omega)) (op_move rfl rfl rfl)) ?_
            refine dr_put (d := 108) (v := .el (((rL 11 eSen) ((ix (frm l gap) i))))) rfl (oy rfl rfl rfl (show (decide (((ix ((ix (frm l gap) i)) j)).time < ((ix ((ix (frm l gap) i)) (((j : Int) - 1)).toNat)).time)) = false from decide_eq_false (by omega)) (s_index rfl Try.underlying24 ti22 rfl rfl (by omega) (row_at (by omega)) rfl)) ?_
            refine dr_put (d := 109) (v := .d (.sl 11 (List.map eSen ((ix (frm l gap) i))))) rfl (oy rfl rfl rfl (show (decide (((ix ((ix (frm l gap) i)) j)).time < ((ix ((ix (frm l gap) i)) (((j : Int) - 1)).toNat)).time)) = false from decide_eq_false (by omega)) (op_load_el rfl Try.underlying22 rfl rfl rfl rfl)) ?_
            refine dr_put (d := 110) (v := .d (.fl (.int .i64 (j : Int)))) rfl (oy rfl rfl rfl (show (decide (((ix ((ix (frm l gap) i)) j)).time < ((ix ((ix (frm l gap) i)) (((j : Int) - 1)).toNat)).time)) = false from decide_eq_false (by omega)) (op_move rfl rfl rfl)) ?_
            refine dr_put (d := 111) (v := .d (.fl (.int .i64 (((j : Int) - 1))))) rfl (oy rfl rfl rfl (show (decide (((ix ((ix (frm l gap) i)) j)).time < ((ix ((ix (frm l gap) i)) (((j : Int) - 1)).toNat)).time)) = false from decide_eq_false (by omega)) (op_bin rfl rfl rfl (fun x y w => b_sub64 _ _ _ x y w (by omega)) rfl)) ?_
            refine dr_put (d := 112) (v := .el ((eSen ((ix ((ix (frm l gap) i)) (((j : Int) - 1)).toNat))))) rfl (oy rfl rfl rfl (show (decide (((ix ((ix (frm l gap) i)) j)).time < ((ix ((ix (frm l gap) i)) (((j : Int) - 1)).toNat)).time)) = false from decide_eq_false (by omega)) (s_index rfl Try.underlying22 ti31 rfl rfl (by omega) (row_atI (by omega) (by omega)) rfl)) ?_
            refine dr_put (d := 113) (v := .el ((List.drop 7 ((eSen ((ix ((ix (frm l gap) i)) (((j : Int) - 1)).toNat))))))) rfl (oy rfl rfl rfl (show (decide (((ix ((ix (frm l gap) i)) j)).time < ((ix ((ix (frm l gap) i)) (((j : Int) - 1)).toNat)).time)) = false from decide_eq_false (by omega)) (of_eff (s_field_el rfl Try.underlying31 rfl ti3 rfl rfl rfl) rfl)) ?_
            refine dr_put (d := 114) (v := .d (.fl (.int .i64 (((ix ((ix (frm l gap) i)) (((j : Int) - 1)).toNat)).time)))) rfl (oy rfl rfl rfl (show (decide (((ix ((ix (frm l gap) i)) j)).time < ((ix ((ix (frm l gap) i)) (((j : Int) - 1)).toNat)).time)) = false from decide_eq_false (by omega)) (op_load_el rfl Try.underlying3 rfl rfl rfl rfl)) ?_
            refine dr_put (d := 115) (v := .d (.fl (.int .i64 ((((ix ((ix (frm l gap) i)) j)).time - ((ix ((ix (frm l gap) i)) (((j : Int) - 1)).toNat)).time))))) rfl (oy rfl rfl rfl (show (decide (((ix ((ix (frm l gap) i)) j)).time < ((ix ((ix (frm l gap) i)) (((j : Int) - 1)).toNat)).time)) = false from decide_eq_false (by omega)) (op_bin rfl rfl rfl (fun x y w => b_sub64 _ _ _ x y w (by omega)) rfl)) ?_
            refine dr_put (d := 116) (v := .d (.fl (.int .i64 gap))) rfl (oy rfl rfl rfl (show (decide (((ix ((ix (frm l gap) i)) j)).time < ((ix ((ix (frm l gap) i)) (((j : Int) - 1)).toNat)).time)) = false from decide_eq_false (by omega)) (op_move rfl rfl rfl)) ?_
            refine dr_put (d := 117) (v := .d (.fl (.bool ((decide (gap < (((ix ((ix (frm l gap) i)) j)).time - ((ix ((ix (frm l gap) i)) (((j : Int) - 1)).toNat)).time))))))) rfl (oy rfl rfl rfl (show (decide (((ix ((ix (frm l gap) i)) j)).time < ((ix ((ix (frm l gap) i)) (((j : Int) - 1)).toNat)).time)) = false from decide_eq_false (by omega)) (op_bin rfl rfl rfl (b_gtr _ _ _ _) rfl)) ?_
            refine dr_put (d := 118) (v := .d (.fl (.bool ((decide (gap < (((ix ((ix (frm l gap) i)) j)).time - ((ix ((ix (frm l gap) i)) (((j : Int) - 1)).toNat)).time))))))) rfl (og rfl (op_pick rfl rfl (by rw [(show (decide (((ix ((ix (frm l gap) i)) j)).time < ((ix ((ix (frm l gap) i)) (((j : Int) - 1)).toNat)).time)) = false from decide_eq_false (by omega))]; rfl) rfl)) ?_
            refine dr_done rfl (sepB_of [0, 0, 3, 7, 0, 31, 63, 127, 0, 0, 768, 1792, 3840, 7936, 16128, 32767, 65535, 131071, 131071, 524287, 1048575, 131071, 4194303, 8388607, 16777215, 131071, 131071, 100794367, 235012095, 131071, 537001983, 2114060287, 4261543935, 8556511231, 17179869183, 34359738367, 68719476735, 137438953471, 137438953471, 549755813887, 1099511627775, 137438953471, 4398046511103, 8796093022207, 17592186044415, 137438953471, 137438953471, 105690555219967, 246428043575295, 137438953471, 563087392374783, 2216752880549887, 4468552694235135, 8972152321605631, 18014398509481983, 137438953471, 72057594037927935, 144115188075855871] (by kernel_rfl)) (by kernel_rfl) ?_
            refine a_condF rfl (show (decide (gap < (((ix ((ix (frm l gap) i)) j)).time - ((ix ((ix (frm l gap) i)) (((j : Int) - 1)).toNat)).time))) = false from decide_eq_false (by omega)) ?_
            refine a_skip ?_
            show A _ _ _ _ _ _ _
            refine a_region ?_
            refine rg_put (d := 59) (v := .d (.fl (.int .i64 (j : Int)))) rfl (og rfl (op_move rfl rfl rfl)) ?_
            refine rg_put (d := 60) (v := .d (.fl (.int .i64 (((j : Int) + 1))))) rfl (og rfl (op_bin rfl rfl rfl (fun x y w => b_add64 _ _ _ x y w (by omega)) rfl)) ?_
            refine rg_put (d := 9) (v := .d (.fl (.int .i64 (((j : Int) + 1))))) rfl (og rfl (op_assign rfl rfl rfl)) ?_
            refine rg_done rfl ?_
            show ∃ i, _ ∧ _ ∧ Imp _ _ _ _ _
            refine ⟨j + 1, ⟨by omega, by omega⟩, by omega, imp_forget rfl ⟨rfl, rfl, rfl, rfl, rfl, rfl, rfl, rfl, rfl, rfl, (ci (by omega)), trivial⟩ ⟨rfl, trivial⟩⟩
          · skip
            have h16 := f_dec h14
            refine a_exit ?_
            show A _ _ _ _ _ _ _
            refine a_rseq ?_
            refine rg_put (d := 10) (v := .d (.fl (.int .i64 0))) rfl (og rfl (op_assign rfl rfl rfl)) ?_
            refine rg_done rfl ?_
            refine a_block ?_
            refine a_loop (ι := Nat) (fun q => SS [(0, .d (.sl 11 (List.map eSen l))), (1, .d (.fl (.int .i64 gap))), (5, .d (.fl (.int .i64 (k : Int)))), (6, .d (.sl 1 (List.map (rL 11 eSen) (frm l gap)))), (7, .ow 102), (8, .d (.fl (.int .i64 (i : Int)))), (9, .d (.fl (.int .i64 (j : Int)))), (18, .d (.fl (.bool ((decide (gap < 0)))))), (22, .d (.fl (.bool ((decide ((k : Int) < (l.length : Int))))))), (37, .d (.fl (.bool ((decide ((i : Int) < ((frm l gap).length : Int))))))), (51, .d (.fl (.bool (((((ix (frm l gap) i)).length : Int) == 0))))), (58, .d (.fl (.bool ((decide ((j : Int) < (((ix (frm l gap) i)).length : Int))))))), (10, .d (.fl (.int .i64 (q : Int))))] [(102, .tr 31 11 (tD eSen (((((frm l gap).take i).flatten) ++ (ix (frm l gap) i)))))]) (fun q => q ≤ i) (fun q => i - q) 0 (by omega) (imp_forget rfl ⟨rfl, rfl, rfl, rfl, rfl, rfl, rfl, rfl, rfl, rfl, rfl, rfl, rfl, trivial⟩ ⟨rfl, trivial⟩) (fun q hok => ?_)
            have hqq := hok
            refine a_seq ?_
            refine a_rseq ?_
            refine rg_put (d := 119) (v := .d (.fl (.int .i64 (q : Int)))) rfl (og rfl (op_move rfl rfl rfl)) ?_
            refine rg_put (d := 120) (v := .d (.fl (.int .i64 (i : Int)))) rfl (og rfl (op_move rfl rfl rfl)) ?_
            refine rg_put (d := 121) (v := .d (.fl (.bool ((decide ((q : Int) < (i : Int))))))) rfl (og rfl (op_bin rfl rfl rfl (b_lss _ _ _ _) rfl)) ?_
            refine rg_done rfl ?_
            refine a_cond rfl (fun h17 => ?_) (fun h17 => ?_)
            · skip
              have h18 := t_dec h17
              refine a_skip ?_
              show A _ _ _ _ _ _ _
              refine a_seq ?_
              refine a_block ?_
              refine a_dseq (by kernel_rfl) ?_
              have hrun2 := (frm_run (ix_mem (by omega : q < (frm l gap).length))).2
              refine dr_put (d := 124) (v := .d (.sl 1 (List.map (rL 11 eSen) (frm l gap)))) rfl (og rfl (op_move rfl rfl rfl)) ?_
              refine dr_put (d := 125) (v := .d (.fl (.int .i64 (i : Int)))) rfl (og rfl (op_move rfl rfl rfl)) ?_
              refine dr_put (d := 126) (v := .el (((rL 11 eSen) ((ix (frm l gap) i))))) rfl (og rfl (s_index rfl Try.underlying24 ti22 rfl rfl (by omega) (row_at (by omega)) rfl)) ?_
              refine dr_put (d := 127) (v := .d (.sl 11 (List.map eSen ((ix (frm l gap) i))))) rfl (og rfl (op_load_el rfl Try.underlying22 rfl rfl rfl rfl)) ?_
              refine dr_put (d := 128) (v := .d (.sl 1 (List.map (rL 11 eSen) (frm l gap)))) rfl (og rfl (op_move rfl rfl rfl)) ?_
              refine dr_put (d := 129) (v := .d (.fl (.int .i64 (q : Int)))) rfl (og rfl (op_move rfl rfl rfl)) ?_
              refine dr_put (d := 130) (v := .el (((rL 11 eSen) ((ix (frm l gap) q))))) rfl (og rfl (s_index rfl Try.underlying24 ti22 rfl rfl (by omega) (row_at (by omega)) rfl)) ?_
              refine dr_put (d := 131) (v := .d (.sl 11 (List.map eSen ((ix (frm l gap) q))))) rfl (og rfl (op_load_el rfl Try.underlying22 rfl rfl rfl rfl)) ?_
              refine dr_put (d := 132) (v := .d (.fl (.int .i64 gap))) rfl (og rfl (op_move rfl rfl rfl)) ?_
              refine dr_put (d := 133) (v := .d (.fl (.bool true))) rfl (og rfl (op_call rfl Try.func26 nm26 rfl (.cons rfl (.d _) (.cons rfl (.d _) (.cons rfl (.d _) .nil))) (apT (ix (frm l gap) i) (ix (frm l gap) q) gap (by omega) (by omega) (frm_apart hg0 hgr hT0 (by omega) (by omega)) (frm_tm hT0 (by omega)) (frm_tm hT0 (by omega))) rfl)) ?_
              refine dr_put (d := 134) (v := .d (.fl (.bool (!true)))) rfl (og rfl (op_un rfl rfl (u_not _) rfl)) ?_
              refine dr_done rfl (by kernel_rfl) (by kernel_rfl) ?_
              refine a_condF rfl rfl ?_
              refine a_skip ?_
              show A _ _ _ _ _ _ _
              refine a_region ?_
              refine rg_put (d := 122) (v := .d (.fl (.int .i64 (q : Int)))) rfl (og rfl (op_move rfl rfl rfl)) ?_
              refine rg_put (d := 123) (v := .d (.fl (.int .i64 (((q : Int) + 1))))) rfl (og rfl (op_bin rfl rfl rfl (fun x y w => b_add64 _ _ _ x y w (by omega)) rfl)) ?_
              refine rg_put (d := 10) (v := .d (.fl (.int .i64 (((q : Int) + 1))))) rfl (og rfl (op_assign rfl rfl rfl)) ?_
              refine rg_done rfl ?_
              show ∃ i, _ ∧ _ ∧ Imp _ _ _ _ _
              refine ⟨q + 1, (by omega), by omega, imp_forget rfl ⟨rfl, rfl, rfl, rfl, rfl, rfl, rfl, rfl, rfl, rfl, rfl, rfl, (ci (by omega)), trivial⟩ ⟨rfl, trivial⟩⟩
            · skip
              have h19 := f_dec h17
              refine a_exit ?_
              show A _ _ _ _ _ _ _
              refine a_region ?_
              refine rg_put (d := 38) (v := .d (.fl (.int .i64 (i : Int)))) rfl (og rfl (op_move rfl rfl rfl)) ?_
              refine rg_put (d := 39) (v := .d (.fl (.int .i64 (((i : Int) + 1))))) rfl (og rfl (op_bin rfl rfl rfl (fun x y w => b_add64 _ _ _ x y w (by omega)) rfl)) ?_
              refine rg_put (d := 8) (v := .d (.fl (.int .i64 (((i : Int) + 1))))) rfl (og rfl (op_assign rfl rfl rfl)) ?_
              refine rg_done rfl ?_
              show ∃ i, _ ∧ _ ∧ Imp _ _ _ _ _
              refine ⟨i + 1, (by omega), by omega, imp_ren (fun m => bif Nat.beq m 101 then 102 else m) rfl ⟨rfl, rfl, rfl, rfl, rfl, rfl, (ci (by omega)), rfl, trivial⟩ ⟨(congrArg (fun z => Ob.tr 31 11 (tD eSen z)) (fl_s (by omega))), trivial⟩⟩
        · skip
          have h20 := f_dec h12
          refine a_exit ?_
          show A _ _ _ _ _ _ _
          refine a_seq ?_
          refine a_rseq ?_
          rw [show ((frm l gap).take i) = (frm l gap) from by rw [show i = (frm l gap).length by omega, List.take_length]]
          refine rg_imp (imp_leakT 7 101 rfl rfl) ?_
          refine rg_put (d := 135) (v := .d (.sl 11 (List.map eSen (((frm l gap).flatten))))) rfl (og rfl (op_move rfl rfl rfl)) ?_
          refine rg_put (d := 136) (v := .d (.fl (.int .i64 (((((frm l gap).flatten)).length : Int))))) rfl (og rfl (s_len rfl Try.underlying22 rfl rfl)) ?_
          refine rg_put (d := 137) (v := .d (.sl 11 (List.map eSen l))) rfl (og rfl (op_move rfl rfl rfl)) ?_
          refine rg_put (d := 138) (v := .d (.fl (.int .i64 (l.length : Int)))) rfl (og rfl (s_len rfl Try.underlying22 rfl rfl)) ?_
          refine rg_put (d := 139) (v := .d (.fl (.bool ((((((frm l gap).flatten)).length : Int) != (l.length : Int)))))) rfl (og rfl (op_bin rfl rfl rfl (b_neq _ _ _ _) rfl)) ?_
          refine rg_done rfl ?_
          refine a_condF rfl (show ((((((frm l gap).flatten)).length : Int) != (l.length : Int))) = false from by rw [hFf]; simp) ?_
          refine a_skip ?_
          show A _ _ _ _ _ _ _
          refine a_seq ?_
          refine a_rseq ?_
          refine rg_put (d := 11) (v := .d (.fl (.int .i64 0))) rfl (og rfl (op_assign rfl rfl rfl)) ?_
          refine rg_done rfl ?_
          refine a_block ?_
          refine a_loop (ι := Nat) (fun n => SS [(0, .d (.sl 11 (List.map eSen l))), (1, .d (.fl (.int .i64 gap))), (5, .d (.fl (.int .i64 (k : Int)))), (6, .d (.sl 1 (List.map (rL 11 eSen) (frm l gap)))), (7, .d (.sl 11 (List.map eSen (((frm l gap).flatten))))), (8, .d (.fl (.int .i64 (i : Int)))), (18, .d (.fl (.bool ((decide (gap < 0)))))), (22, .d (.fl (.bool ((decide ((k : Int) < (l.length : Int))))))), (37, .d (.fl (.bool ((decide ((i : Int) < ((frm l gap).length : Int))))))), (139, .d (.fl (.bool ((((((frm l gap).flatten)).length : Int) != (l.length : Int)))))), (11, .d (.fl (.int .i64 (n : Int))))] []) (fun n => n ≤ l.length) (fun n => l.length - n) 0 (by omega) (imp_forget rfl ⟨rfl, rfl, rfl, rfl, rfl, rfl, rfl, rfl, rfl, rfl, rfl, trivial⟩ trivial) (fun n hok => ?_)
          have hn := hok
          refine a_seq ?_
          refine a_rseq ?_
          refine rg_put (d := 140) (v := .d (.fl (.int .i64 (n : Int)))) rfl (og rfl (op_move rfl rfl rfl)) ?_
          refine rg_put (d := 141) (v := .d (.sl 11 (List.map eSen l))) rfl (og rfl (op_move rfl rfl rfl)) ?_
          refine rg_put (d := 142) (v := .d (.fl (.int .i64 (l.length : Int)))) rfl (og rfl (s_len rfl Try.underlying22 rfl rfl)) ?_
          refine rg_put (d := 143) (v := .d (.fl (.bool ((decide ((n : Int) < (l.length : Int))))))) rfl (og rfl (op_bin rfl rfl rfl (b_lss _ _ _ _) rfl)) ?_
          refine rg_done rfl ?_
          refine a_cond rfl (fun h21 => ?_) (fun h21 => ?_)
          · skip
            have h22 := t_dec h21
            refine a_skip ?_
            show A _ _ _ _ _ _ _
            refine a_seq ?_
            refine a_block ?_
            refine a_dseq (by kernel_rfl) ?_
            refine dr_put (d := 146) (v := .d (.sl 11 (List.map eSen (((frm l gap).flatten))))) rfl (og rfl (op_move rfl rfl rfl)) ?_
            refine dr_put (d := 147) (v := .d (.sl 11 (List.map eSen l))) rfl (og rfl (op_move rfl rfl rfl)) ?_
            refine dr_put (d := 148) (v := .d (.fl (.int .i64 (n : Int)))) rfl (og rfl (op_move rfl rfl rfl)) ?_
            refine dr_put (d := 149) (v := .el ((eSen (ix l n)))) rfl (og rfl (s_index rfl Try.underlying22 ti31 rfl rfl (by omega) (row_at (by omega)) rfl)) ?_
            refine dr_put (d := 150) (v := .d (.ag (eSen (ix l n)))) rfl (og rfl (of_eff (s_load_els rfl Try.underlying31 rfl ti31 rfl rfl rfl) rfl)) ?_
            refine dr_put (d := 151) (v := .d (.fl (.int .i64 ((cnt (((frm l gap).flatten)) (ix l n)))))) rfl (og rfl (op_call rfl Try.func27 nm27 rfl (.cons rfl (.d _) (.cons rfl (.d _) .nil)) (cntC (((frm l gap).flatten)) (ix l n) (by omega)) rfl)) ?_
            refine dr_put (d := 152) (v := .d (.sl 11 (List.map eSen l))) rfl (og rfl (op_move rfl rfl rfl)) ?_
            refine dr_put (d := 153) (v := .d (.sl 11 (List.map eSen l))) rfl (og rfl (op_move rfl rfl rfl)) ?_
            refine dr_put (d := 154) (v := .d (.fl (.int .i64 (n : Int)))) rfl (og rfl (op_move rfl rfl rfl)) ?_
            refine dr_put (d := 155) (v := .el ((eSen (ix l n)))) rfl (og rfl (s_index rfl Try.underlying22 ti31 rfl rfl (by omega) (row_at (by omega)) rfl)) ?_
            refine dr_put (d := 156) (v := .d (.ag (eSen (ix l n)))) rfl (og rfl (of_eff (s_load_els rfl Try.underlying31 rfl ti31 rfl rfl rfl) rfl)) ?_
            refine dr_put (d := 157) (v := .d (.fl (.int .i64 ((cnt l (ix l n)))))) rfl (og rfl (op_call rfl Try.func27 nm27 rfl (.cons rfl (.d _) (.cons rfl (.d _) .nil)) (cntC l (ix l n) (by omega)) rfl)) ?_
            refine dr_put (d := 158) (v := .d (.fl (.bool (((cnt (((frm l gap).flatten)) (ix l n)) != (cnt l (ix l n))))))) rfl (og rfl (op_bin rfl rfl rfl (b_neq _ _ _ _) rfl)) ?_
            refine dr_done rfl (by kernel_rfl) (by kernel_rfl) ?_
            refine a_condF rfl (show (((cnt (((frm l gap).flatten)) (ix l n)) != (cnt l (ix l n)))) = false from by rw [cnt_perm (frm_flat l gap)]; simp) ?_
            refine a_skip ?_
            show A _ _ _ _ _ _ _
            refine a_region ?_
            refine rg_put (d := 144) (v := .d (.fl (.int .i64 (n : Int)))) rfl (og rfl (op_move rfl rfl rfl)) ?_
            refine rg_put (d := 145) (v := .d (.fl (.int .i64 (((n : Int) + 1))))) rfl (og rfl (op_bin rfl rfl rfl (fun x y w => b_add64 _ _ _ x y w (by omega)) rfl)) ?_
            refine rg_put (d := 11) (v := .d (.fl (.int .i64 (((n : Int) + 1))))) rfl (og rfl (op_assign rfl rfl rfl)) ?_
            refine rg_done rfl ?_
            show ∃ i, _ ∧ _ ∧ Imp _ _ _ _ _
            refine ⟨n + 1, (by omega), by omega, imp_forget rfl ⟨rfl, rfl, rfl, rfl, rfl, rfl, rfl, rfl, rfl, rfl, (ci (by omega)), trivial⟩ trivial⟩
          · skip
            have h23 := f_dec h21
            refine a_exit ?_
            show A _ _ _ _ _ _ _
            refine a_rseq ?_
            refine rg_put (d := 159) (v := .d (.fl (.bool true))) rfl (og rfl (op_call rfl Try.func13 nm13 rfl .nil alive13 rfl)) ?_
            refine rg_put (d := 4) (v := .d (.fl (.bool true))) rfl (og rfl (op_assign rfl rfl rfl)) ?_
            refine rg_done rfl ?_
            refine a_ret ?_
            show ∃ ds, ResL _ _ _ ds ∧ RV.of ds = _
            refine ⟨[.fl (.bool true)], (.cons (.tmp rfl (.d _)) .nil), ?_⟩
            rfl
  · skip
    have h24 := t_dec h1
    refine rg_put (d := 16) (v := .d (.fl undef)) rfl (on rfl rfl rfl h1) ?_
    refine rg_put (d := 17) (v := .d (.fl undef)) rfl (on rfl rfl rfl h1) ?_
    refine rg_put (d := 18) (v := .d (.fl (.bool true))) rfl (og rfl (op_pick rfl rfl (by rw [h1]; rfl) rfl)) ?_
    refine rg_done rfl ?_
    refine a_condK rfl rfl ?_
    refine a_rseq ?_
    refine rg_put (d := 4) (v := .d (.fl (.bool true))) rfl (og rfl (op_assign rfl rfl rfl)) ?_
    refine rg_done rfl ?_
    refine a_ret ?_
    show ∃ ds, ResL _ _ _ ds ∧ RV.of ds = _
    refine ⟨[.fl (.bool true)], (.cons (.tmp rfl (.d _)) .nil), ?_⟩
    rfl
end Go.Proofs.Ytipkielpicfobaa.Wk
