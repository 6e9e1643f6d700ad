/- The law of lists. No condition. -/
import Derived.Test.YtcneahkgcljdoaaC1
set_option linter.unusedSimpArgs false
set_option linter.unusedVariables false
namespace Go.Proofs.Ytcneahkgcljdoaa.Wk
open Go Go.RowKit Go.Proofs.Ytcneahkgcljdoaa.Av
def oZn (x : Zn) : List OC := [.dv (.fl (.string x.name)), .ow 43 3 (List.map eWd x.hours), .ow 45 3 (List.map eStp x.steps), .dv (.fl (.int .i64 x.grace)), .dv (.fl (.int .i64 x.free)), .dv (.fl (.int .i64 x.dayMax)), .dv (.fl (.int .i64 x.stay))]
def zeroZ : Zn := Zn.mk ⟨#[]⟩ [] [] 0 0 0 0
def fz (l : List Zn) (s : ByteArray) : Zn × Bool := match l.find? (fun z => sEq z.name s) with
  | some z => (z, true)
  | none => (zeroZ, false)
theorem fz_at {l : List Zn} {s : ByteArray} {k : Nat} (hk : k < l.length) (h : ∀ q, q < k → sEq (ix l q).name s = false) (hp : sEq (ix l k).name s = true) : fz l s = (ix l k, true) := by unfold fz; rw [fnd_at (p := fun z : Zn => sEq z.name s) hk h hp]
theorem fz_no {l : List Zn} {s : ByteArray} (h : ∀ q, q < l.length → sEq (ix l q).name s = false) : fz l s = (zeroZ, false) := by unfold fz; rw [fnd_no (p := fun z : Zn => sEq z.name s) h]
theorem fz_in {l : List Zn} {s : ByteArray} (h : ∀ q, q < l.length → grt (ix l q) = false) : (fz l s).1.hours.length ≤ 60 ∧ (fz l s).1.steps.length ≤ 40 := by
  unfold fz
  split
  · rename_i z hz
    obtain ⟨k, hk, rfl⟩ := mem_ix (List.mem_of_find?_eq_some hz)
    exact grt_f (h k hk)
  · simp [zeroZ]
def dup (l : List Zn) (s : ByteArray) : Bool := l.any fun d => sEq d.name s
def setD (l : List Zn) : List (Value × DV) := l.map fun x => (Value.string x.name, DV.fl (.bool true))
theorem setD_take {l : List Zn} {k : Nat} (h : k < l.length) : setD (l.take k) ++ [(Value.string (ix l k).name, DV.fl (.bool true))] = setD (l.take (k + 1)) := by unfold setD; rw [take_ix h, List.map_append]; rfl
noncomputable def dv1 (l : List Zn) (k : Nat) : Int := if zck (ix l k) ≠ 0 then zck (ix l k) else if dup (l.take k) (ix l k).name = true then 9 else 0
noncomputable def dvE (l : List Zn) : Int := fe (dv1 l) 0 l.length
noncomputable def chk (l : List Zn) : Int := if decide (1024 < (l.length : Int)) = true then 3 else dvE l
theorem dv_ck {l : List Zn} {k : Nat} (h : zck (ix l k) ≠ 0) : dv1 l k = zck (ix l k) := by unfold dv1; rw [if_pos h]
theorem dv_dup {l : List Zn} {k : Nat} (h : zck (ix l k) = 0) (h2 : dup (l.take k) (ix l k).name = true) : dv1 l k = 9 := by unfold dv1; rw [if_neg (by rw [h]; decide), if_pos h2]
theorem dv_ok {l : List Zn} {k : Nat} (h : zck (ix l k) = 0) (h2 : dup (l.take k) (ix l k).name = false) : dv1 l k = 0 := by unfold dv1; rw [if_neg (by rw [h]; decide), if_neg (by rw [h2]; decide)]
theorem chk_lim {l : List Zn} (h : decide (1024 < (l.length : Int)) = true) : chk l = 3 := by unfold chk; rw [h]; rfl
theorem chk_all {l : List Zn} (h : decide (1024 < (l.length : Int)) = false) : chk l = dvE l := by unfold chk; rw [h]; rfl
theorem dup_no {l : List Zn} {k : Nat} (h : k < l.length) (hq : ∀ j, j < k → sEq (ix l j).name (ix l k).name = false) : dup (l.take k) (ix l k).name = false := by
  unfold dup
  refine any_no (fun j hj => ?_)
  rw [List.length_take] at hj
  rw [show ix (l.take k) j = ix l j by unfold ix; rw [List.getD_eq_getElem?_getD, List.getD_eq_getElem?_getD, List.getElem?_take_of_lt (by omega)]]
  exact hq j (by omega)
theorem dup_yes {l : List Zn} {k j : Nat} (h : k < l.length) (hj : j < k) (he : sEq (ix l j).name (ix l k).name = true) : dup (l.take k) (ix l k).name = true := by
  unfold dup
  rw [List.any_eq_true]
  exact ⟨ix l j, by rw [← ix_eq (by omega : j < l.length)]; exact List.mem_take_iff_getElem.2 ⟨j, by omega, rfl⟩, he⟩

theorem eqI43 (a : Wd) (w : World) : (Op.equalIn 10000 43 (.agg (([.int .i64 a.days, .int .i64 a.fr, .int .i64 a.to] : List Value).toArray)) (.agg (([.int .i64 a.days, .int .i64 a.fr, .int .i64 a.to] : List Value).toArray))).run Try.prog w = .ok true w := by
  have hS : Try.prog.underlying 43 = some (.struct (Try.prog.fieldsOf 43)) := by kernel_rfl
  have hp : Try.prog.stoodInHeld 43 = false := by kernel_rfl
  rw [show (10000 : Nat) = 9999 + 1 from rfl, run_equalIn_agg w 9999 43 _ _ hS hp]
  simp only [Program.fieldsOf, Try.underlying43]
  go_simp

theorem eql43 (a : Wd) (x y : Operand) (w : World) : (do eqGuard .eql 43 x y (.agg (([.int .i64 a.days, .int .i64 a.fr, .int .i64 a.to] : List Value).toArray)) (.agg (([.int .i64 a.days, .int .i64 a.fr, .int .i64 a.to] : List Value).toArray)); binOp .eql 43 (.agg (([.int .i64 a.days, .int .i64 a.fr, .int .i64 a.to] : List Value).toArray)) (.agg (([.int .i64 a.days, .int .i64 a.fr, .int .i64 a.to] : List Value).toArray)) : Sem Value).run Try.prog w = .ok (.bool true) w := by
  have hm : Try.prog.eqGuardType Try.prog.depth 43 = false := by kernel_rfl
  rw [Sem.run_bind, run_eqGuard_agg w .eql 43 x y _ _ hm, Result.andThen_ok, run_eql_struct, eqI43]
  rfl

theorem neq43 (a : Wd) (x y : Operand) (w : World) : (do eqGuard .neq 43 x y (.agg (([.int .i64 a.days, .int .i64 a.fr, .int .i64 a.to] : List Value).toArray)) (.agg (([.int .i64 a.days, .int .i64 a.fr, .int .i64 a.to] : List Value).toArray)); binOp .neq 43 (.agg (([.int .i64 a.days, .int .i64 a.fr, .int .i64 a.to] : List Value).toArray)) (.agg (([.int .i64 a.days, .int .i64 a.fr, .int .i64 a.to] : List Value).toArray)) : Sem Value).run Try.prog w = .ok (.bool false) w := by
  have hm : Try.prog.eqGuardType Try.prog.depth 43 = false := by kernel_rfl
  rw [Sem.run_bind, run_eqGuard_agg w .neq 43 x y _ _ hm, Result.andThen_ok, run_neq_struct, eqI43]
  rfl

theorem eqI45 (a : Stp) (w : World) : (Op.equalIn 10000 45 (.agg (([.int .i64 a.upto, .int .i64 a.unit, .int .i64 a.cents] : List Value).toArray)) (.agg (([.int .i64 a.upto, .int .i64 a.unit, .int .i64 a.cents] : List Value).toArray))).run Try.prog w = .ok true w := by
  have hS : Try.prog.underlying 45 = some (.struct (Try.prog.fieldsOf 45)) := by kernel_rfl
  have hp : Try.prog.stoodInHeld 45 = false := by kernel_rfl
  rw [show (10000 : Nat) = 9999 + 1 from rfl, run_equalIn_agg w 9999 45 _ _ hS hp]
  simp only [Program.fieldsOf, Try.underlying45]
  go_simp

theorem eql45 (a : Stp) (x y : Operand) (w : World) : (do eqGuard .eql 45 x y (.agg (([.int .i64 a.upto, .int .i64 a.unit, .int .i64 a.cents] : List Value).toArray)) (.agg (([.int .i64 a.upto, .int .i64 a.unit, .int .i64 a.cents] : List Value).toArray)); binOp .eql 45 (.agg (([.int .i64 a.upto, .int .i64 a.unit, .int .i64 a.cents] : List Value).toArray)) (.agg (([.int .i64 a.upto, .int .i64 a.unit, .int .i64 a.cents] : List Value).toArray)) : Sem Value).run Try.prog w = .ok (.bool true) w := by
  have hm : Try.prog.eqGuardType Try.prog.depth 45 = false := by kernel_rfl
  rw [Sem.run_bind, run_eqGuard_agg w .eql 45 x y _ _ hm, Result.andThen_ok, run_eql_struct, eqI45]
  rfl

theorem neq45 (a : Stp) (x y : Operand) (w : World) : (do eqGuard .neq 45 x y (.agg (([.int .i64 a.upto, .int .i64 a.unit, .int .i64 a.cents] : List Value).toArray)) (.agg (([.int .i64 a.upto, .int .i64 a.unit, .int .i64 a.cents] : List Value).toArray)); binOp .neq 45 (.agg (([.int .i64 a.upto, .int .i64 a.unit, .int .i64 a.cents] : List Value).toArray)) (.agg (([.int .i64 a.upto, .int .i64 a.unit, .int .i64 a.cents] : List Value).toArray)) : Sem Value).run Try.prog w = .ok (.bool false) w := by
  have hm : Try.prog.eqGuardType Try.prog.depth 45 = false := by kernel_rfl
  rw [Sem.run_bind, run_eqGuard_agg w .neq 45 x y _ _ hm, Result.andThen_ok, run_neq_struct, eqI45]
  rfl

set_option maxHeartbeats 4000000 in
set_option maxRecDepth 100000 in
theorem cloW (l : List Wd) (hl : (l.length) * 25 ≤ 140737488355328) : CtrO Try.prog 31 [.sl 3 (List.map eWd l)] (.tr 43 3 (tD eWd l)) := by
  refine ctrO (n := 8) (rs := #[.tmp 2]) (L := [(0, .d (.sl 3 (List.map eWd l)))]) Try.func31 rfl rfl rfl rfl rfl (fun w0 U0 => ?_)
  refine a_rseq ?_
  refine rg_put (d := 2) (v := .d (.fl (.slice none 0 0))) rfl (og rfl (op_assign rfl rfl rfl)) ?_
  refine rg_done rfl ?_
  refine a_seq ?_
  refine a_rseq ?_
  refine rg_put (d := 3) (v := .d (.sl 3 (List.map eWd l))) rfl (og rfl (op_move rfl rfl rfl)) ?_
  refine rg_isnil rfl rfl rfl Try.underlying22 rfl rfl rfl (fun bh1 nh1 => ?_)
  refine rg_done rfl ?_
  refine a_cond rfl (fun h2 => ?_) (fun h2 => ?_)
  · skip
    refine a_rseq ?_
    refine rg_put (d := 2) (v := .d (.fl (.slice none 0 0))) rfl (og rfl (op_assign rfl rfl rfl)) ?_
    refine rg_done rfl ?_
    have hnil : l = [] := by simpa using nh1 h2
    subst hnil
    refine a_imp (imp_nilT 2 101 43 3 rfl rfl) ?_
    refine a_ret ?_
    show ∃ rv, _ = #[rv] ∧ ResO _ _ rv _
    exact ⟨_, rfl, .tmp rfl rfl⟩
  · skip
    refine a_skip ?_
    show A _ _ _ _ _ _ _
    refine a_rseq ?_
    refine rg_nam (d := 5) (v := .ow 102) (m := 102) (nw := [(102, .tr 43 3 (tD eWd []))]) rfl (og rfl (of_eff (op_slice0 102 rfl Try.underlying22 ti43 rfl) rfl)) rfl ?_
    refine rg_put (d := 6) (v := .d (.sl 3 (List.map eWd l))) rfl (og rfl (op_move rfl rfl rfl)) ?_
    refine rg_nam (d := 7) (v := .ow 103) (m := 103) (nw := [(103, .tr 43 3 (tD eWd ([] ++ l))), (102, .no)]) rfl (og rfl (of_eff (s_append_td 103 rfl Try.underlying22 ti43 rfl rfl rfl rfl rfl (.d _) (by simp only [List.length_nil]; omega) rfl) rfl)) rfl ?_
    refine rg_put (d := 2) (v := .ow 103) rfl (og rfl (op_assign rfl rfl rfl)) ?_
    refine rg_done rfl ?_
    refine a_ret ?_
    show ∃ rv, _ = #[rv] ∧ ResO _ _ rv _
    exact ⟨_, rfl, .tmp rfl rfl⟩
set_option maxHeartbeats 4000000 in
set_option maxRecDepth 100000 in
theorem cloS (l : List Stp) (hl : (l.length) * 25 ≤ 140737488355328) : CtrO Try.prog 32 [.sl 3 (List.map eStp l)] (.tr 45 3 (tD eStp l)) := by
  refine ctrO (n := 8) (rs := #[.tmp 2]) (L := [(0, .d (.sl 3 (List.map eStp l)))]) Try.func32 rfl rfl rfl rfl rfl (fun w0 U0 => ?_)
  refine a_rseq ?_
  refine rg_put (d := 2) (v := .d (.fl (.slice none 0 0))) rfl (og rfl (op_assign rfl rfl rfl)) ?_
  refine rg_done rfl ?_
  refine a_seq ?_
  refine a_rseq ?_
  refine rg_put (d := 3) (v := .d (.sl 3 (List.map eStp l))) rfl (og rfl (op_move rfl rfl rfl)) ?_
  refine rg_isnil rfl rfl rfl Try.underlying23 rfl rfl rfl (fun bh1 nh1 => ?_)
  refine rg_done rfl ?_
  refine a_cond rfl (fun h2 => ?_) (fun h2 => ?_)
  · skip
    refine a_rseq ?_
    refine rg_put (d := 2) (v := .d (.fl (.slice none 0 0))) rfl (og rfl (op_assign rfl rfl rfl)) ?_
    refine rg_done rfl ?_
    have hnil : l = [] := by simpa using nh1 h2
    subst hnil
    refine a_imp (imp_nilT 2 101 45 3 rfl rfl) ?_
    refine a_ret ?_
    show ∃ rv, _ = #[rv] ∧ ResO _ _ rv _
    exact ⟨_, rfl, .tmp rfl rfl⟩
  · skip
    refine a_skip ?_
    show A _ _ _ _ _ _ _
    refine a_rseq ?_
    refine rg_nam (d := 5) (v := .ow 102) (m := 102) (nw := [(102, .tr 45 3 (tD eStp []))]) rfl (og rfl (of_eff (op_slice0 102 rfl Try.underlying23 ti45 rfl) rfl)) rfl ?_
    refine rg_put (d := 6) (v := .d (.sl 3 (List.map eStp l))) rfl (og rfl (op_move rfl rfl rfl)) ?_
    refine rg_nam (d := 7) (v := .ow 103) (m := 103) (nw := [(103, .tr 45 3 (tD eStp ([] ++ l))), (102, .no)]) rfl (og rfl (of_eff (s_append_td 103 rfl Try.underlying23 ti45 rfl rfl rfl rfl rfl (.d _) (by simp only [List.length_nil]; omega) rfl) rfl)) rfl ?_
    refine rg_put (d := 2) (v := .ow 103) rfl (og rfl (op_assign rfl rfl rfl)) ?_
    refine rg_done rfl ?_
    refine a_ret ?_
    show ∃ rv, _ = #[rv] ∧ ResO _ _ rv _
    exact ⟨_, rfl, .tmp rfl rfl⟩
set_option maxHeartbeats 4000000 in
set_option maxRecDepth 100000 in
theorem fresh_z (z : Zn) (h1 : z.hours.length ≤ 60) (h2 : z.steps.length ≤ 40) : CtrO Try.prog 26 [.ag (eZn z)] (.sv (oZn z)) := by
  refine ctrO (n := 12) (rs := #[.cell 2 25]) (L := [(0, .d (.ag (eZn z)))]) Try.func26 rfl rfl rfl rfl rfl (fun w0 U0 => ?_)
  refine a_rseq ?_
  refine rg_nam (d := 1) (v := .pt 101 0) (m := 101) (nw := [(101, .bx 25 (eZn z))]) rfl (og rfl (of_eff (op_box 101 rfl rfl rfl rfl) rfl)) rfl ?_
  refine rg_nam (d := 2) (v := .pt 102 0) (m := 102) (nw := [(102, .bx 25 ([.fl (.string (⟨#[]⟩)), .fl (.slice none 0 0), .fl (.slice none 0 0), .fl (.int .i64 0), .fl (.int .i64 0), .fl (.int .i64 0), .fl (.int .i64 0)]))]) rfl (og rfl (of_eff (s_alloc 102 rfl ti25 (by kernel_rfl) rfl) rfl)) rfl ?_
  refine rg_done rfl ?_
  refine a_rseq ?_
  refine rg_imp (imp_bt 101 rfl) ?_
  refine rg_imp (imp_bt 102 rfl) ?_
  refine rg_put (d := 3) (v := .pt 101 1) rfl (og rfl (of_eff (s_field_pt rfl Try.underlying25 rfl ti22 rfl rfl rfl) rfl)) ?_
  refine rg_put (d := 4) (v := .d (.sl 3 (List.map eWd z.hours))) rfl (og rfl (op_load_bt rfl Try.underlying22 rfl rfl rfl rfl rfl)) ?_
  refine rg_nam (d := 5) (v := .ow 103) (m := 103) (nw := [(103, .tr 43 3 (tD eWd z.hours))]) rfl (og rfl (of_eff (op_callO 103 rfl Try.func31 nm31 rfl (.cons rfl (.d _) .nil) (cloW z.hours (by omega)) rfl) rfl)) rfl ?_
  refine rg_put (d := 6) (v := .pt 101 1) rfl (og rfl (of_eff (s_field_pt rfl Try.underlying25 rfl ti22 rfl rfl rfl) rfl)) ?_
  refine rg_sto (nw := [(101, .bt 25 [.dv (.fl (.string z.name)), .ow 43 3 (List.map eWd z.hours), .dv (.sl 3 (List.map eStp z.steps)), .dv (.fl (.int .i64 z.grace)), .dv (.fl (.int .i64 z.free)), .dv (.fl (.int .i64 z.dayMax)), .dv (.fl (.int .i64 z.stay))]), (103, .no)]) rfl (og rfl (of_eff (op_store_bt rfl rfl ti22 rfl rfl rfl (.tr rfl) rfl rfl rfl) rfl)) ?_
  refine rg_done rfl ?_
  refine a_rseq ?_
  refine rg_put (d := 7) (v := .pt 101 2) rfl (og rfl (of_eff (s_field_pt rfl Try.underlying25 rfl ti23 rfl rfl rfl) rfl)) ?_
  refine rg_put (d := 8) (v := .d (.sl 3 (List.map eStp z.steps))) rfl (og rfl (op_load_bt rfl Try.underlying23 rfl rfl rfl rfl rfl)) ?_
  refine rg_nam (d := 9) (v := .ow 104) (m := 104) (nw := [(104, .tr 45 3 (tD eStp z.steps))]) rfl (og rfl (of_eff (op_callO 104 rfl Try.func32 nm32 rfl (.cons rfl (.d _) .nil) (cloS z.steps (by omega)) rfl) rfl)) rfl ?_
  refine rg_put (d := 10) (v := .pt 101 2) rfl (og rfl (of_eff (s_field_pt rfl Try.underlying25 rfl ti23 rfl rfl rfl) rfl)) ?_
  refine rg_sto (nw := [(101, .bt 25 [.dv (.fl (.string z.name)), .ow 43 3 (List.map eWd z.hours), .ow 45 3 (List.map eStp z.steps), .dv (.fl (.int .i64 z.grace)), .dv (.fl (.int .i64 z.free)), .dv (.fl (.int .i64 z.dayMax)), .dv (.fl (.int .i64 z.stay))]), (104, .no)]) rfl (og rfl (of_eff (op_store_bt rfl rfl ti23 rfl rfl rfl (.tr rfl) rfl rfl rfl) rfl)) ?_
  refine rg_done rfl ?_
  refine a_rseq ?_
  refine rg_nam (d := 11) (v := .ow 105) (m := 105) (nw := [(105, .sv [.dv (.fl (.string z.name)), .ow 43 3 (List.map eWd z.hours), .ow 45 3 (List.map eStp z.steps), .dv (.fl (.int .i64 z.grace)), .dv (.fl (.int .i64 z.free)), .dv (.fl (.int .i64 z.dayMax)), .dv (.fl (.int .i64 z.stay))]), (101, .no)]) rfl (og rfl (of_eff (op_move_bt 105 rfl Try.underlying25 rfl ti25 rfl rfl rfl rfl) rfl)) rfl ?_
  refine rg_sto (nw := [(102, .bt 25 [.dv (.fl (.string z.name)), .ow 43 3 (List.map eWd z.hours), .ow 45 3 (List.map eStp z.steps), .dv (.fl (.int .i64 z.grace)), .dv (.fl (.int .i64 z.free)), .dv (.fl (.int .i64 z.dayMax)), .dv (.fl (.int .i64 z.stay))]), (105, .no)]) rfl (og rfl (of_eff (op_store_bt rfl rfl ti25 rfl rfl rfl (.sv rfl) rfl rfl rfl) rfl)) ?_
  refine rg_done rfl ?_
  refine a_ret ?_
  show ∃ rv, _ = #[rv] ∧ ResO _ _ rv _
  exact ⟨_, rfl, .cell rfl rfl Try.underlying25 rfl ti25 rfl⟩
theorem copy26 (z : Zn) (h1 : z.hours.length ≤ 60) (h2 : z.steps.length ≤ 40) : Ctr Try.prog 26 [.ag (eZn z)] (.d (.ag (eZn z))) := ctr_of_O (fresh_z z h1 h2) rfl
set_option maxHeartbeats 4000000 in
set_option maxRecDepth 100000 in
theorem fndV (l : List Zn) (nm : ByteArray) (hl : l.length ≤ 1100) (hz : ∀ q, q < l.length → grt (ix l q) = false) : Ctr Try.prog 10 [.sl 7 (List.map eZn l), .fl (.string nm)] (.tu [.ag (eZn (fz l nm).1), .fl (.bool (fz l nm).2)]) := by
  refine ctr (n := 22) (rs := #[.cell 4 25, .tmp 5]) (L := [(0, .d (.sl 7 (List.map eZn l))), (1, .d (.fl (.string nm)))]) Try.func10 rfl rfl rfl rfl rfl (fun w0 U0 => ?_)
  refine a_rseq ?_
  refine rg_nam (d := 4) (v := .pt 101 0) (m := 101) (nw := [(101, .bx 25 ([.fl (.string (⟨#[]⟩)), .fl (.slice none 0 0), .fl (.slice none 0 0), .fl (.int .i64 0), .fl (.int .i64 0), .fl (.int .i64 0), .fl (.int .i64 0)]))]) rfl (og rfl (of_eff (s_alloc 101 rfl ti25 (by kernel_rfl) rfl) rfl)) rfl ?_
  refine rg_put (d := 5) (v := .d (.fl (.bool false))) rfl (og rfl (op_assign rfl rfl rfl)) ?_
  refine rg_done rfl ?_
  refine a_seq ?_
  refine a_rseq ?_
  refine rg_put (d := 8) (v := .d (.sl 7 (List.map eZn l))) rfl (og rfl (op_move rfl rfl rfl)) ?_
  refine rg_put (d := 9) (v := .d (.fl (.int .i64 (l.length : Int)))) rfl (og rfl (s_len rfl Try.underlying31 rfl rfl)) ?_
  refine rg_put (d := 10) (v := .d (.fl (.int .i64 0))) rfl (og rfl (op_move rfl rfl rfl)) ?_
  refine rg_done rfl ?_
  refine a_block ?_
  refine a_loop (ι := Nat) (fun k => SS [(0, .d (.sl 7 (List.map eZn l))), (1, .d (.fl (.string nm))), (4, .pt 101 0), (8, .d (.sl 7 (List.map eZn l))), (9, .d (.fl (.int .i64 (l.length : Int)))), (10, .d (.fl (.int .i64 (k : Int))))] [(101, .bx 25 ([.fl (.string (⟨#[]⟩)), .fl (.slice none 0 0), .fl (.slice none 0 0), .fl (.int .i64 0), .fl (.int .i64 0), .fl (.int .i64 0), .fl (.int .i64 0)]))]) (fun k => k ≤ l.length ∧ ∀ q, q < k → (sEq (ix l q).name nm) = false) (fun k => l.length - k) 0 (⟨by omega, fun q h => by omega⟩) (imp_forget rfl ⟨rfl, rfl, rfl, rfl, rfl, (by first | rfl | exact ci (by omega) | exact ci (by simp) | exact cd (by simp) | simp), trivial⟩ ⟨rfl, trivial⟩) (fun k hok => ?_)
  obtain ⟨hkk, hq⟩ := hok
  refine a_rseq ?_
  refine rg_put (d := 11) (v := .d (.fl (.bool ((decide ((k : Int) < (l.length : Int))))))) rfl (og rfl (op_bin rfl rfl rfl (b_lss _ _ _ _) rfl)) ?_
  refine rg_done rfl ?_
  refine a_seq ?_
  refine a_cond rfl (fun h1 => ?_) (fun h1 => ?_)
  · skip
    have h2 := t_dec h1
    refine a_skip ?_
    show A _ _ _ _ _ _ _
    refine a_seq ?_
    refine a_block ?_
    refine a_rseq ?_
    refine rg_put (d := 12) (v := .el ((eZn (ix l k)))) rfl (og rfl (s_index rfl Try.underlying31 ti25 rfl rfl (by omega) (row_at (by omega)) rfl)) ?_
    refine rg_put (d := 13) (v := .d (.ag (eZn (ix l k)))) rfl (og rfl (of_eff (s_load_els rfl Try.underlying25 rfl ti25 rfl rfl rfl) rfl)) ?_
    refine rg_nam (d := 7) (v := .pt 102 0) (m := 102) (nw := [(102, .bx 25 ([.fl (.string (⟨#[]⟩)), .fl (.slice none 0 0), .fl (.slice none 0 0), .fl (.int .i64 0), .fl (.int .i64 0), .fl (.int .i64 0), .fl (.int .i64 0)]))]) rfl (og rfl (of_eff (s_alloc 102 rfl ti25 (by kernel_rfl) rfl) rfl)) rfl ?_
    refine rg_sto (nw := [(102, .bx 25 ((eZn (ix l k))))]) rfl (og rfl (of_eff (s_store rfl rfl ti25 rfl rfl rfl rfl rfl rfl) rfl)) ?_
    refine rg_done rfl ?_
    refine a_rseq ?_
    refine rg_put (d := 14) (v := .pt 102 0) rfl (og rfl (of_eff (s_field_pt rfl Try.underlying25 rfl ti9 rfl rfl rfl) rfl)) ?_
    refine rg_put (d := 15) (v := .d (.fl (.string ((ix l k).name)))) rfl (og rfl (op_load_pt rfl Try.underlying9 rfl rfl rfl rfl rfl)) ?_
    refine rg_put (d := 16) (v := .d (.fl (.string nm))) rfl (og rfl (op_move rfl rfl rfl)) ?_
    refine rg_put (d := 17) (v := .d (.fl (.bool ((sEq ((ix l k).name) nm))))) rfl (og rfl (op_bin rfl rfl rfl (b_seq _ _ _) rfl)) ?_
    refine rg_done rfl ?_
    refine a_cond rfl (fun h3 => ?_) (fun h3 => ?_)
    · skip
      refine a_rseq ?_
      refine rg_put (d := 18) (v := .d (.ag (eZn (ix l k)))) rfl (og rfl (of_eff (s_load_pts rfl Try.underlying25 rfl ti25 rfl rfl rfl rfl) rfl)) ?_
      refine rg_put (d := 19) (v := .d (.ag (eZn (ix l k)))) rfl (og rfl (op_call rfl Try.func26 nm26 rfl (.cons rfl (.d _) .nil) (copy26 (ix l k) (grt_f (hz k (by omega))).1 (grt_f (hz k (by omega))).2) rfl)) ?_
      refine rg_sto (nw := [(101, .bx 25 ((eZn (ix l k))))]) rfl (og rfl (of_eff (s_store rfl rfl ti25 rfl rfl rfl rfl rfl rfl) rfl)) ?_
      refine rg_put (d := 5) (v := .d (.fl (.bool true))) rfl (og rfl (op_assign rfl rfl rfl)) ?_
      refine rg_done rfl ?_
      refine a_ret ?_
      show ∃ ds, ResL _ _ _ ds ∧ RV.of ds = _
      refine ⟨[.ag [.fl (.string ((ix l k).name)), .sl 3 (List.map eWd ((ix l k).hours)), .sl 3 (List.map eStp ((ix l k).steps)), .fl (.int .i64 ((ix l k).grace)), .fl (.int .i64 ((ix l k).free)), .fl (.int .i64 ((ix l k).dayMax)), .fl (.int .i64 ((ix l k).stay))], .fl (.bool true)], (.cons (.cellT rfl rfl Try.underlying25 rfl ti25 rfl (Cv.ag (xs := [.fl (.string ((ix l k).name)), .sl 3 (List.map eWd ((ix l k).hours)), .sl 3 (List.map eStp ((ix l k).steps)), .fl (.int .i64 ((ix l k).grace)), .fl (.int .i64 ((ix l k).free)), .fl (.int .i64 ((ix l k).dayMax)), .fl (.int .i64 ((ix l k).stay))]) (ys := [.fl (.string ((ix l k).name)), .sl 3 (List.map eWd ((ix l k).hours)), .sl 3 (List.map eStp ((ix l k).steps)), .fl (.int .i64 ((ix l k).grace)), .fl (.int .i64 ((ix l k).free)), .fl (.int .i64 ((ix l k).dayMax)), .fl (.int .i64 ((ix l k).stay))]) ⟨Cv.refl _, Cv.refl _, Cv.refl _, Cv.refl _, Cv.refl _, Cv.refl _, Cv.refl _, trivial⟩)) (.cons (.tmp rfl (.d _)) .nil)), ?_⟩
      rw [fz_at (by omega) hq h3]; rfl
    · skip
      refine a_skip ?_
      show A _ _ _ _ _ _ _
      refine a_region ?_
      refine rg_put (d := 20) (v := .d (.fl (.int .i64 (((k : Int) + 1))))) rfl (og rfl (op_bin rfl rfl rfl (fun x y w => b_add64 _ _ _ x y w (by omega)) rfl)) ?_
      refine rg_put (d := 10) (v := .d (.fl (.int .i64 (((k : Int) + 1))))) rfl (og rfl (op_move rfl rfl rfl)) ?_
      refine rg_done rfl ?_
      have hx : (sEq (ix l k).name nm) = false := h3
      show ∃ i, _ ∧ _ ∧ Imp _ _ _ _ _
      refine ⟨k + 1, ⟨by omega, fun q h => (Nat.lt_succ_iff_lt_or_eq.1 h).elim (hq q) (fun e => by rw [e]; exact hx)⟩, by omega, imp_forget rfl ⟨rfl, rfl, rfl, rfl, rfl, (by first | rfl | exact ci (by omega) | exact ci (by simp) | exact cd (by simp) | simp), trivial⟩ ⟨rfl, trivial⟩⟩
  · skip
    have h4 := f_dec h1
    refine a_exit ?_
    show A _ _ _ _ _ _ _
    refine a_rseq ?_
    refine rg_put (d := 21) (v := .d (.ag [.fl (.string (⟨#[]⟩)), .fl (.slice none 0 0), .fl (.slice none 0 0), .fl (.int .i64 0), .fl (.int .i64 0), .fl (.int .i64 0), .fl (.int .i64 0)])) rfl (og rfl (of_eff (op_build rfl Try.underlying25 ti25 rfl (by kernel_rfl) (by kernel_rfl) (pl := #[(0, 1), (1, 1), (2, 1), (3, 1), (4, 1), (5, 1), (6, 1)]) (by kernel_rfl) .nil rfl) rfl)) ?_
    refine rg_sto (nw := [(101, .bx 25 ([.fl (.string (⟨#[]⟩)), .fl (.slice none 0 0), .fl (.slice none 0 0), .fl (.int .i64 0), .fl (.int .i64 0), .fl (.int .i64 0), .fl (.int .i64 0)]))]) rfl (og rfl (of_eff (s_store rfl rfl ti25 rfl rfl rfl rfl rfl rfl) rfl)) ?_
    refine rg_put (d := 5) (v := .d (.fl (.bool false))) rfl (og rfl (op_assign rfl rfl rfl)) ?_
    refine rg_done rfl ?_
    refine a_ret ?_
    show ∃ ds, ResL _ _ _ ds ∧ RV.of ds = _
    refine ⟨[.ag [.fl (.string (⟨#[]⟩)), .sl 3 (List.map eWd []), .sl 3 (List.map eStp []), .fl (.int .i64 0), .fl (.int .i64 0), .fl (.int .i64 0), .fl (.int .i64 0)], .fl (.bool false)], (.cons (.cellT rfl rfl Try.underlying25 rfl ti25 rfl (Cv.ag (xs := [.fl (.string (⟨#[]⟩)), .fl (.slice none 0 0), .fl (.slice none 0 0), .fl (.int .i64 0), .fl (.int .i64 0), .fl (.int .i64 0), .fl (.int .i64 0)]) (ys := [.fl (.string (⟨#[]⟩)), .sl 3 (List.map eWd []), .sl 3 (List.map eStp []), .fl (.int .i64 0), .fl (.int .i64 0), .fl (.int .i64 0), .fl (.int .i64 0)]) ⟨Cv.refl _, Cv.nil _, Cv.nil _, Cv.refl _, Cv.refl _, Cv.refl _, Cv.refl _, trivial⟩)) (.cons (.tmp rfl (.d _)) .nil)), ?_⟩
    rw [fz_no (fun q h => hq q (by omega))]; rfl
set_option maxHeartbeats 4000000 in
set_option maxRecDepth 100000 in
theorem fndR (l : List Zn) (nm : ByteArray) (hl : l.length ≤ 1100) (hz : ∀ q, q < l.length → grt (ix l q) = false) : Ctr Try.prog 11 [.sl 7 (List.map eZn l), .fl (.string nm)] (.tu [.ag (eZn (fz l nm).1), .fl (.bool (fz l nm).2)]) := by
  refine ctr (n := 25) (rs := #[.cell 4 25, .tmp 5]) (L := [(0, .d (.sl 7 (List.map eZn l))), (1, .d (.fl (.string nm)))]) Try.func11 rfl rfl rfl rfl rfl (fun w0 U0 => ?_)
  refine a_rseq ?_
  refine rg_nam (d := 4) (v := .pt 101 0) (m := 101) (nw := [(101, .bx 25 ([.fl (.string (⟨#[]⟩)), .fl (.slice none 0 0), .fl (.slice none 0 0), .fl (.int .i64 0), .fl (.int .i64 0), .fl (.int .i64 0), .fl (.int .i64 0)]))]) rfl (og rfl (of_eff (s_alloc 101 rfl ti25 (by kernel_rfl) rfl) rfl)) rfl ?_
  refine rg_put (d := 5) (v := .d (.fl (.bool false))) rfl (og rfl (op_assign rfl rfl rfl)) ?_
  refine rg_done rfl ?_
  refine a_seq ?_
  refine a_rseq ?_
  refine rg_put (d := 6) (v := .d (.fl (.int .i64 0))) rfl (og rfl (op_assign rfl rfl rfl)) ?_
  refine rg_done rfl ?_
  refine a_block ?_
  refine a_loop (ι := Nat) (fun k => SS [(0, .d (.sl 7 (List.map eZn l))), (1, .d (.fl (.string nm))), (4, .pt 101 0), (6, .d (.fl (.int .i64 (k : Int))))] [(101, .bx 25 ([.fl (.string (⟨#[]⟩)), .fl (.slice none 0 0), .fl (.slice none 0 0), .fl (.int .i64 0), .fl (.int .i64 0), .fl (.int .i64 0), .fl (.int .i64 0)]))]) (fun k => k ≤ l.length ∧ ∀ q, q < k → (sEq (ix l q).name nm) = false) (fun k => l.length - k) 0 (⟨by omega, fun q h => by omega⟩) (imp_forget rfl ⟨rfl, rfl, rfl, (by first | rfl | exact ci (by omega) | exact ci (by simp) | exact cd (by simp) | simp), trivial⟩ ⟨rfl, trivial⟩) (fun k hok => ?_)
  obtain ⟨hkk, hq⟩ := hok
  refine a_seq ?_
  refine a_rseq ?_
  refine rg_put (d := 7) (v := .d (.fl (.int .i64 (k : Int)))) rfl (og rfl (op_move rfl rfl rfl)) ?_
  refine rg_put (d := 8) (v := .d (.sl 7 (List.map eZn l))) rfl (og rfl (op_move rfl rfl rfl)) ?_
  refine rg_put (d := 9) (v := .d (.fl (.int .i64 (l.length : Int)))) rfl (og rfl (s_len rfl Try.underlying31 rfl rfl)) ?_
  refine rg_put (d := 10) (v := .d (.fl (.bool ((decide ((k : Int) < (l.length : Int))))))) rfl (og rfl (op_bin rfl rfl rfl (b_lss _ _ _ _) rfl)) ?_
  refine rg_done rfl ?_
  refine a_cond rfl (fun h1 => ?_) (fun h1 => ?_)
  · skip
    have h2 := t_dec h1
    refine a_skip ?_
    show A _ _ _ _ _ _ _
    refine a_seq ?_
    refine a_block ?_
    refine a_rseq ?_
    refine rg_put (d := 13) (v := .d (.sl 7 (List.map eZn l))) rfl (og rfl (op_move rfl rfl rfl)) ?_
    refine rg_put (d := 14) (v := .d (.fl (.int .i64 (k : Int)))) rfl (og rfl (op_move rfl rfl rfl)) ?_
    refine rg_put (d := 15) (v := .el ((eZn (ix l k)))) rfl (og rfl (s_index rfl Try.underlying31 ti25 rfl rfl (by omega) (row_at (by omega)) rfl)) ?_
    refine rg_put (d := 16) (v := .el ((List.drop 0 ((eZn (ix l k)))))) rfl (og rfl (of_eff (s_field_el rfl Try.underlying25 rfl ti9 rfl rfl rfl) rfl)) ?_
    refine rg_put (d := 17) (v := .d (.fl (.string ((ix l k).name)))) rfl (og rfl (op_load_el rfl Try.underlying9 rfl rfl rfl rfl)) ?_
    refine rg_put (d := 18) (v := .d (.fl (.string nm))) rfl (og rfl (op_move rfl rfl rfl)) ?_
    refine rg_put (d := 19) (v := .d (.fl (.bool ((sEq ((ix l k).name) nm))))) rfl (og rfl (op_bin rfl rfl rfl (b_seq _ _ _) rfl)) ?_
    refine rg_done rfl ?_
    refine a_cond rfl (fun h3 => ?_) (fun h3 => ?_)
    · skip
      refine a_rseq ?_
      refine rg_put (d := 20) (v := .d (.sl 7 (List.map eZn l))) rfl (og rfl (op_move rfl rfl rfl)) ?_
      refine rg_put (d := 21) (v := .d (.fl (.int .i64 (k : Int)))) rfl (og rfl (op_move rfl rfl rfl)) ?_
      refine rg_put (d := 22) (v := .el ((eZn (ix l k)))) rfl (og rfl (s_index rfl Try.underlying31 ti25 rfl rfl (by omega) (row_at (by omega)) rfl)) ?_
      refine rg_put (d := 23) (v := .d (.ag (eZn (ix l k)))) rfl (og rfl (of_eff (s_load_els rfl Try.underlying25 rfl ti25 rfl rfl rfl) rfl)) ?_
      refine rg_sto (nw := [(101, .bx 25 ((eZn (ix l k))))]) rfl (og rfl (of_eff (s_store rfl rfl ti25 rfl rfl rfl rfl rfl rfl) rfl)) ?_
      refine rg_put (d := 5) (v := .d (.fl (.bool true))) rfl (og rfl (op_assign rfl rfl rfl)) ?_
      refine rg_done rfl ?_
      refine a_ret ?_
      show ∃ ds, ResL _ _ _ ds ∧ RV.of ds = _
      refine ⟨[.ag [.fl (.string ((ix l k).name)), .sl 3 (List.map eWd ((ix l k).hours)), .sl 3 (List.map eStp ((ix l k).steps)), .fl (.int .i64 ((ix l k).grace)), .fl (.int .i64 ((ix l k).free)), .fl (.int .i64 ((ix l k).dayMax)), .fl (.int .i64 ((ix l k).stay))], .fl (.bool true)], (.cons (.cellT rfl rfl Try.underlying25 rfl ti25 rfl (Cv.ag (xs := [.fl (.string ((ix l k).name)), .sl 3 (List.map eWd ((ix l k).hours)), .sl 3 (List.map eStp ((ix l k).steps)), .fl (.int .i64 ((ix l k).grace)), .fl (.int .i64 ((ix l k).free)), .fl (.int .i64 ((ix l k).dayMax)), .fl (.int .i64 ((ix l k).stay))]) (ys := [.fl (.string ((ix l k).name)), .sl 3 (List.map eWd ((ix l k).hours)), .sl 3 (List.map eStp ((ix l k).steps)), .fl (.int .i64 ((ix l k).grace)), .fl (.int .i64 ((ix l k).free)), .fl (.int .i64 ((ix l k).dayMax)), .fl (.int .i64 ((ix l k).stay))]) ⟨Cv.refl _, Cv.refl _, Cv.refl _, Cv.refl _, Cv.refl _, Cv.refl _, Cv.refl _, trivial⟩)) (.cons (.tmp rfl (.d _)) .nil)), ?_⟩
      rw [fz_at (by omega) hq h3]; rfl
    · skip
      refine a_skip ?_
      show A _ _ _ _ _ _ _
      refine a_region ?_
      refine rg_put (d := 11) (v := .d (.fl (.int .i64 (k : Int)))) rfl (og rfl (op_move rfl rfl rfl)) ?_
      refine rg_put (d := 12) (v := .d (.fl (.int .i64 (((k : Int) + 1))))) rfl (og rfl (op_bin rfl rfl rfl (fun x y w => b_add64 _ _ _ x y w (by omega)) rfl)) ?_
      refine rg_put (d := 6) (v := .d (.fl (.int .i64 (((k : Int) + 1))))) rfl (og rfl (op_assign rfl rfl rfl)) ?_
      refine rg_done rfl ?_
      have hx : (sEq (ix l k).name nm) = false := h3
      show ∃ i, _ ∧ _ ∧ Imp _ _ _ _ _
      refine ⟨k + 1, ⟨by omega, fun q h => (Nat.lt_succ_iff_lt_or_eq.1 h).elim (hq q) (fun e => by rw [e]; exact hx)⟩, by omega, imp_forget rfl ⟨rfl, rfl, rfl, (by first | rfl | exact ci (by omega) | exact ci (by simp) | exact cd (by simp) | simp), trivial⟩ ⟨rfl, trivial⟩⟩
  · skip
    have h4 := f_dec h1
    refine a_exit ?_
    show A _ _ _ _ _ _ _
    refine a_rseq ?_
    refine rg_put (d := 24) (v := .d (.ag [.fl (.string (⟨#[]⟩)), .fl (.slice none 0 0), .fl (.slice none 0 0), .fl (.int .i64 0), .fl (.int .i64 0), .fl (.int .i64 0), .fl (.int .i64 0)])) rfl (og rfl (of_eff (op_build rfl Try.underlying25 ti25 rfl (by kernel_rfl) (by kernel_rfl) (pl := #[(0, 1), (1, 1), (2, 1), (3, 1), (4, 1), (5, 1), (6, 1)]) (by kernel_rfl) .nil rfl) rfl)) ?_
    refine rg_sto (nw := [(101, .bx 25 ([.fl (.string (⟨#[]⟩)), .fl (.slice none 0 0), .fl (.slice none 0 0), .fl (.int .i64 0), .fl (.int .i64 0), .fl (.int .i64 0), .fl (.int .i64 0)]))]) rfl (og rfl (of_eff (s_store rfl rfl ti25 rfl rfl rfl rfl rfl rfl) rfl)) ?_
    refine rg_put (d := 5) (v := .d (.fl (.bool false))) rfl (og rfl (op_assign rfl rfl rfl)) ?_
    refine rg_done rfl ?_
    refine a_ret ?_
    show ∃ ds, ResL _ _ _ ds ∧ RV.of ds = _
    refine ⟨[.ag [.fl (.string (⟨#[]⟩)), .sl 3 (List.map eWd []), .sl 3 (List.map eStp []), .fl (.int .i64 0), .fl (.int .i64 0), .fl (.int .i64 0), .fl (.int .i64 0)], .fl (.bool false)], (.cons (.cellT rfl rfl Try.underlying25 rfl ti25 rfl (Cv.ag (xs := [.fl (.string (⟨#[]⟩)), .fl (.slice none 0 0), .fl (.slice none 0 0), .fl (.int .i64 0), .fl (.int .i64 0), .fl (.int .i64 0), .fl (.int .i64 0)]) (ys := [.fl (.string (⟨#[]⟩)), .sl 3 (List.map eWd []), .sl 3 (List.map eStp []), .fl (.int .i64 0), .fl (.int .i64 0), .fl (.int .i64 0), .fl (.int .i64 0)]) ⟨Cv.refl _, Cv.nil _, Cv.nil _, Cv.refl _, Cv.refl _, Cv.refl _, Cv.refl _, trivial⟩)) (.cons (.tmp rfl (.d _)) .nil)), ?_⟩
    rw [fz_no (fun q h => hq q (by omega))]; rfl
set_option maxHeartbeats 4000000 in
set_option maxRecDepth 100000 in
theorem same14 (z : Zn) (h1 : z.hours.length ≤ 60) (h2 : z.steps.length ≤ 40) : Ctr Try.prog 14 [.ag (eZn z), .ag (eZn z)] (.d (.fl (.bool true))) := by
  refine ctr (n := 94) (rs := #[.tmp 4]) (L := [(0, .d (.ag (eZn z))), (1, .d (.ag (eZn z)))]) Try.func14 rfl rfl rfl rfl rfl (fun w0 U0 => ?_)
  refine a_rseq ?_
  refine rg_nam (d := 2) (v := .pt 101 0) (m := 101) (nw := [(101, .bx 25 (eZn z))]) rfl (og rfl (of_eff (op_box 101 rfl rfl rfl rfl) rfl)) rfl ?_
  refine rg_nam (d := 3) (v := .pt 102 0) (m := 102) (nw := [(102, .bx 25 (eZn z))]) rfl (og rfl (of_eff (op_box 102 rfl rfl rfl rfl) rfl)) rfl ?_
  refine rg_put (d := 4) (v := .d (.fl (.bool false))) rfl (og rfl (op_assign rfl rfl rfl)) ?_
  refine rg_done rfl ?_
  refine a_seq ?_
  refine a_rseq ?_
  refine rg_put (d := 7) (v := .pt 101 0) rfl (og rfl (of_eff (s_field_pt rfl Try.underlying25 rfl ti9 rfl rfl rfl) rfl)) ?_
  refine rg_put (d := 8) (v := .d (.fl (.string z.name))) rfl (og rfl (op_load_pt rfl Try.underlying9 rfl rfl rfl rfl rfl)) ?_
  refine rg_put (d := 9) (v := .pt 102 0) rfl (og rfl (of_eff (s_field_pt rfl Try.underlying25 rfl ti9 rfl rfl rfl) rfl)) ?_
  refine rg_put (d := 10) (v := .d (.fl (.string z.name))) rfl (og rfl (op_load_pt rfl Try.underlying9 rfl rfl rfl rfl rfl)) ?_
  refine rg_put (d := 11) (v := .d (.fl (.bool ((!(sEq z.name z.name)))))) rfl (og rfl (op_bin rfl rfl rfl (b_sne _ _ _) rfl)) ?_
  refine rg_put (d := 12) (v := .d (.fl (.bool ((!(sEq z.name z.name)))))) rfl (og rfl (op_move rfl rfl rfl)) ?_
  refine rg_put (d := 13) (v := .pt 101 3) rfl (oy rfl rfl rfl (not_f (eq_self_s _)) (of_eff (s_field_pt rfl Try.underlying25 rfl ti3 rfl rfl rfl) rfl)) ?_
  refine rg_put (d := 14) (v := .d (.fl (.int .i64 z.grace))) rfl (oy rfl rfl rfl (not_f (eq_self_s _)) (op_load_pt rfl Try.underlying3 rfl rfl rfl rfl rfl)) ?_
  refine rg_put (d := 15) (v := .pt 102 3) rfl (oy rfl rfl rfl (not_f (eq_self_s _)) (of_eff (s_field_pt rfl Try.underlying25 rfl ti3 rfl rfl rfl) rfl)) ?_
  refine rg_put (d := 16) (v := .d (.fl (.int .i64 z.grace))) rfl (oy rfl rfl rfl (not_f (eq_self_s _)) (op_load_pt rfl Try.underlying3 rfl rfl rfl rfl rfl)) ?_
  refine rg_put (d := 17) (v := .d (.fl (.bool (z.grace != z.grace)))) rfl (oy rfl rfl rfl (not_f (eq_self_s _)) (op_bin rfl rfl rfl (b_neq _ _ _ _) rfl)) ?_
  refine rg_put (d := 18) (v := .d (.fl (.bool (z.grace != z.grace)))) rfl (og rfl (op_pick rfl rfl (by rw [(not_f (eq_self_s _))]; rfl) rfl)) ?_
  refine rg_put (d := 19) (v := .d (.fl (.bool (z.grace != z.grace)))) rfl (og rfl (op_move rfl rfl rfl)) ?_
  refine rg_put (d := 20) (v := .pt 101 4) rfl (oy rfl rfl rfl (ne_self_b _) (of_eff (s_field_pt rfl Try.underlying25 rfl ti3 rfl rfl rfl) rfl)) ?_
  refine rg_put (d := 21) (v := .d (.fl (.int .i64 z.free))) rfl (oy rfl rfl rfl (ne_self_b _) (op_load_pt rfl Try.underlying3 rfl rfl rfl rfl rfl)) ?_
  refine rg_put (d := 22) (v := .pt 102 4) rfl (oy rfl rfl rfl (ne_self_b _) (of_eff (s_field_pt rfl Try.underlying25 rfl ti3 rfl rfl rfl) rfl)) ?_
  refine rg_put (d := 23) (v := .d (.fl (.int .i64 z.free))) rfl (oy rfl rfl rfl (ne_self_b _) (op_load_pt rfl Try.underlying3 rfl rfl rfl rfl rfl)) ?_
  refine rg_put (d := 24) (v := .d (.fl (.bool (z.free != z.free)))) rfl (oy rfl rfl rfl (ne_self_b _) (op_bin rfl rfl rfl (b_neq _ _ _ _) rfl)) ?_
  refine rg_put (d := 25) (v := .d (.fl (.bool (z.free != z.free)))) rfl (og rfl (op_pick rfl rfl (by rw [(ne_self_b _)]; rfl) rfl)) ?_
  refine rg_put (d := 26) (v := .d (.fl (.bool (z.free != z.free)))) rfl (og rfl (op_move rfl rfl rfl)) ?_
  refine rg_put (d := 27) (v := .pt 101 5) rfl (oy rfl rfl rfl (ne_self_b _) (of_eff (s_field_pt rfl Try.underlying25 rfl ti3 rfl rfl rfl) rfl)) ?_
  refine rg_put (d := 28) (v := .d (.fl (.int .i64 z.dayMax))) rfl (oy rfl rfl rfl (ne_self_b _) (op_load_pt rfl Try.underlying3 rfl rfl rfl rfl rfl)) ?_
  refine rg_put (d := 29) (v := .pt 102 5) rfl (oy rfl rfl rfl (ne_self_b _) (of_eff (s_field_pt rfl Try.underlying25 rfl ti3 rfl rfl rfl) rfl)) ?_
  refine rg_put (d := 30) (v := .d (.fl (.int .i64 z.dayMax))) rfl (oy rfl rfl rfl (ne_self_b _) (op_load_pt rfl Try.underlying3 rfl rfl rfl rfl rfl)) ?_
  refine rg_put (d := 31) (v := .d (.fl (.bool (z.dayMax != z.dayMax)))) rfl (oy rfl rfl rfl (ne_self_b _) (op_bin rfl rfl rfl (b_neq _ _ _ _) rfl)) ?_
  refine rg_put (d := 32) (v := .d (.fl (.bool (z.dayMax != z.dayMax)))) rfl (og rfl (op_pick rfl rfl (by rw [(ne_self_b _)]; rfl) rfl)) ?_
  refine rg_put (d := 33) (v := .d (.fl (.bool (z.dayMax != z.dayMax)))) rfl (og rfl (op_move rfl rfl rfl)) ?_
  refine rg_put (d := 34) (v := .pt 101 6) rfl (oy rfl rfl rfl (ne_self_b _) (of_eff (s_field_pt rfl Try.underlying25 rfl ti3 rfl rfl rfl) rfl)) ?_
  refine rg_put (d := 35) (v := .d (.fl (.int .i64 z.stay))) rfl (oy rfl rfl rfl (ne_self_b _) (op_load_pt rfl Try.underlying3 rfl rfl rfl rfl rfl)) ?_
  refine rg_put (d := 36) (v := .pt 102 6) rfl (oy rfl rfl rfl (ne_self_b _) (of_eff (s_field_pt rfl Try.underlying25 rfl ti3 rfl rfl rfl) rfl)) ?_
  refine rg_put (d := 37) (v := .d (.fl (.int .i64 z.stay))) rfl (oy rfl rfl rfl (ne_self_b _) (op_load_pt rfl Try.underlying3 rfl rfl rfl rfl rfl)) ?_
  refine rg_put (d := 38) (v := .d (.fl (.bool (z.stay != z.stay)))) rfl (oy rfl rfl rfl (ne_self_b _) (op_bin rfl rfl rfl (b_neq _ _ _ _) rfl)) ?_
  refine rg_put (d := 39) (v := .d (.fl (.bool (z.stay != z.stay)))) rfl (og rfl (op_pick rfl rfl (by rw [(ne_self_b _)]; rfl) rfl)) ?_
  refine rg_put (d := 40) (v := .d (.fl (.bool (z.stay != z.stay)))) rfl (og rfl (op_move rfl rfl rfl)) ?_
  refine rg_put (d := 41) (v := .pt 101 1) rfl (oy rfl rfl rfl (ne_self_b _) (of_eff (s_field_pt rfl Try.underlying25 rfl ti22 rfl rfl rfl) rfl)) ?_
  refine rg_put (d := 42) (v := .d (.sl 3 (List.map eWd z.hours))) rfl (oy rfl rfl rfl (ne_self_b _) (op_load_pt rfl Try.underlying22 rfl rfl rfl rfl rfl)) ?_
  refine rg_put (d := 43) (v := .d (.fl (.int .i64 (z.hours.length : Int)))) rfl (oy rfl rfl rfl (ne_self_b _) (s_len rfl Try.underlying22 rfl rfl)) ?_
  refine rg_put (d := 44) (v := .pt 102 1) rfl (oy rfl rfl rfl (ne_self_b _) (of_eff (s_field_pt rfl Try.underlying25 rfl ti22 rfl rfl rfl) rfl)) ?_
  refine rg_put (d := 45) (v := .d (.sl 3 (List.map eWd z.hours))) rfl (oy rfl rfl rfl (ne_self_b _) (op_load_pt rfl Try.underlying22 rfl rfl rfl rfl rfl)) ?_
  refine rg_put (d := 46) (v := .d (.fl (.int .i64 (z.hours.length : Int)))) rfl (oy rfl rfl rfl (ne_self_b _) (s_len rfl Try.underlying22 rfl rfl)) ?_
  refine rg_put (d := 47) (v := .d (.fl (.bool (((z.hours.length : Int) != (z.hours.length : Int)))))) rfl (oy rfl rfl rfl (ne_self_b _) (op_bin rfl rfl rfl (b_neq _ _ _ _) rfl)) ?_
  refine rg_put (d := 48) (v := .d (.fl (.bool (((z.hours.length : Int) != (z.hours.length : Int)))))) rfl (og rfl (op_pick rfl rfl (by rw [(ne_self_b _)]; rfl) rfl)) ?_
  refine rg_put (d := 49) (v := .d (.fl (.bool (((z.hours.length : Int) != (z.hours.length : Int)))))) rfl (og rfl (op_move rfl rfl rfl)) ?_
  refine rg_put (d := 50) (v := .pt 101 2) rfl (oy rfl rfl rfl (ne_self_b _) (of_eff (s_field_pt rfl Try.underlying25 rfl ti23 rfl rfl rfl) rfl)) ?_
  refine rg_put (d := 51) (v := .d (.sl 3 (List.map eStp z.steps))) rfl (oy rfl rfl rfl (ne_self_b _) (op_load_pt rfl Try.underlying23 rfl rfl rfl rfl rfl)) ?_
  refine rg_put (d := 52) (v := .d (.fl (.int .i64 (z.steps.length : Int)))) rfl (oy rfl rfl rfl (ne_self_b _) (s_len rfl Try.underlying23 rfl rfl)) ?_
  refine rg_put (d := 53) (v := .pt 102 2) rfl (oy rfl rfl rfl (ne_self_b _) (of_eff (s_field_pt rfl Try.underlying25 rfl ti23 rfl rfl rfl) rfl)) ?_
  refine rg_put (d := 54) (v := .d (.sl 3 (List.map eStp z.steps))) rfl (oy rfl rfl rfl (ne_self_b _) (op_load_pt rfl Try.underlying23 rfl rfl rfl rfl rfl)) ?_
  refine rg_put (d := 55) (v := .d (.fl (.int .i64 (z.steps.length : Int)))) rfl (oy rfl rfl rfl (ne_self_b _) (s_len rfl Try.underlying23 rfl rfl)) ?_
  refine rg_put (d := 56) (v := .d (.fl (.bool (((z.steps.length : Int) != (z.steps.length : Int)))))) rfl (oy rfl rfl rfl (ne_self_b _) (op_bin rfl rfl rfl (b_neq _ _ _ _) rfl)) ?_
  refine rg_put (d := 57) (v := .d (.fl (.bool (((z.steps.length : Int) != (z.steps.length : Int)))))) rfl (og rfl (op_pick rfl rfl (by rw [(ne_self_b _)]; rfl) rfl)) ?_
  refine rg_done rfl ?_
  refine a_condF rfl (ne_self_b _) ?_
  refine a_skip ?_
  show A _ _ _ _ _ _ _
  refine a_seq ?_
  refine a_rseq ?_
  refine rg_put (d := 5) (v := .d (.fl (.int .i64 0))) rfl (og rfl (op_assign rfl rfl rfl)) ?_
  refine rg_done rfl ?_
  refine a_block ?_
  refine a_loop (ι := Nat) (fun k => SS [(0, .d (.ag (eZn z))), (1, .d (.ag (eZn z))), (2, .pt 101 0), (3, .pt 102 0), (57, .d (.fl (.bool (((z.steps.length : Int) != (z.steps.length : Int)))))), (5, .d (.fl (.int .i64 (k : Int))))] [(101, .bx 25 (eZn z)), (102, .bx 25 (eZn z))]) (fun k => k ≤ z.hours.length) (fun k => z.hours.length - k) 0 (by omega) (imp_forget rfl ⟨rfl, rfl, rfl, rfl, rfl, (by first | rfl | exact ci (by omega) | exact ci (by simp) | exact cd (by simp) | simp), trivial⟩ ⟨rfl, rfl, trivial⟩) (fun k hok => ?_)
  have hk := hok
  refine a_seq ?_
  refine a_rseq ?_
  refine rg_put (d := 58) (v := .d (.fl (.int .i64 (k : Int)))) rfl (og rfl (op_move rfl rfl rfl)) ?_
  refine rg_put (d := 59) (v := .pt 101 1) rfl (og rfl (of_eff (s_field_pt rfl Try.underlying25 rfl ti22 rfl rfl rfl) rfl)) ?_
  refine rg_put (d := 60) (v := .d (.sl 3 (List.map eWd z.hours))) rfl (og rfl (op_load_pt rfl Try.underlying22 rfl rfl rfl rfl rfl)) ?_
  refine rg_put (d := 61) (v := .d (.fl (.int .i64 (z.hours.length : Int)))) rfl (og rfl (s_len rfl Try.underlying22 rfl rfl)) ?_
  refine rg_put (d := 62) (v := .d (.fl (.bool ((decide ((k : Int) < (z.hours.length : Int))))))) rfl (og rfl (op_bin rfl rfl rfl (b_lss _ _ _ _) rfl)) ?_
  refine rg_done rfl ?_
  refine a_cond rfl (fun h1 => ?_) (fun h1 => ?_)
  · skip
    have h2 := t_dec h1
    refine a_skip ?_
    show A _ _ _ _ _ _ _
    refine a_seq ?_
    refine a_block ?_
    refine a_dseq (by kernel_rfl) ?_
    refine dr_put (d := 65) (v := .pt 101 1) rfl (og rfl (of_eff (s_field_pt rfl Try.underlying25 rfl ti22 rfl rfl rfl) rfl)) ?_
    refine dr_put (d := 66) (v := .d (.sl 3 (List.map eWd z.hours))) rfl (og rfl (op_load_pt rfl Try.underlying22 rfl rfl rfl rfl rfl)) ?_
    refine dr_put (d := 67) (v := .d (.fl (.int .i64 (k : Int)))) rfl (og rfl (op_move rfl rfl rfl)) ?_
    refine dr_put (d := 68) (v := .el ((eWd (ix z.hours k)))) rfl (og rfl (s_index rfl Try.underlying22 ti43 rfl rfl (by omega) (row_at (by omega)) rfl)) ?_
    refine dr_put (d := 69) (v := .d (.ag (eWd (ix z.hours k)))) rfl (og rfl (of_eff (s_load_els rfl Try.underlying43 rfl ti43 rfl rfl rfl) rfl)) ?_
    refine dr_put (d := 70) (v := .pt 102 1) rfl (og rfl (of_eff (s_field_pt rfl Try.underlying25 rfl ti22 rfl rfl rfl) rfl)) ?_
    refine dr_put (d := 71) (v := .d (.sl 3 (List.map eWd z.hours))) rfl (og rfl (op_load_pt rfl Try.underlying22 rfl rfl rfl rfl rfl)) ?_
    refine dr_put (d := 72) (v := .d (.fl (.int .i64 (k : Int)))) rfl (og rfl (op_move rfl rfl rfl)) ?_
    refine dr_put (d := 73) (v := .el ((eWd (ix z.hours k)))) rfl (og rfl (s_index rfl Try.underlying22 ti43 rfl rfl (by omega) (row_at (by omega)) rfl)) ?_
    refine dr_put (d := 74) (v := .d (.ag (eWd (ix z.hours k)))) rfl (og rfl (of_eff (s_load_els rfl Try.underlying43 rfl ti43 rfl rfl rfl) rfl)) ?_
    refine dr_put (d := 75) (v := .d (.fl (.bool false))) rfl (og rfl (op_eqS [.int .i64 ((ix z.hours k).days), .int .i64 ((ix z.hours k).fr), .int .i64 ((ix z.hours k).to)] [.int .i64 ((ix z.hours k).days), .int .i64 ((ix z.hours k).fr), .int .i64 ((ix z.hours k).to)] rfl rfl rfl (b := false) (fun ww => neq43 (ix z.hours k) _ _ ww) rfl)) ?_
    refine dr_done rfl (by kernel_rfl) (by kernel_rfl) ?_
    refine a_condF rfl rfl ?_
    refine a_skip ?_
    show A _ _ _ _ _ _ _
    refine a_region ?_
    refine rg_put (d := 63) (v := .d (.fl (.int .i64 (k : Int)))) rfl (og rfl (op_move rfl rfl rfl)) ?_
    refine rg_put (d := 64) (v := .d (.fl (.int .i64 (((k : Int) + 1))))) rfl (og rfl (op_bin rfl rfl rfl (fun x y w => b_add64 _ _ _ x y w (by omega)) rfl)) ?_
    refine rg_put (d := 5) (v := .d (.fl (.int .i64 (((k : Int) + 1))))) rfl (og rfl (op_assign rfl rfl rfl)) ?_
    refine rg_done rfl ?_
    show ∃ i, _ ∧ _ ∧ Imp _ _ _ _ _
    refine ⟨k + 1, (by omega), by omega, imp_forget rfl ⟨rfl, rfl, rfl, rfl, rfl, (by first | rfl | exact ci (by omega) | exact ci (by simp) | exact cd (by simp) | simp), trivial⟩ ⟨rfl, rfl, trivial⟩⟩
  · skip
    have h3 := f_dec h1
    refine a_exit ?_
    show A _ _ _ _ _ _ _
    refine a_seq ?_
    refine a_rseq ?_
    refine rg_put (d := 6) (v := .d (.fl (.int .i64 0))) rfl (og rfl (op_assign rfl rfl rfl)) ?_
    refine rg_done rfl ?_
    refine a_block ?_
    refine a_loop (ι := Nat) (fun j => SS [(0, .d (.ag (eZn z))), (1, .d (.ag (eZn z))), (2, .pt 101 0), (3, .pt 102 0), (5, .d (.fl (.int .i64 (k : Int)))), (57, .d (.fl (.bool (((z.steps.length : Int) != (z.steps.length : Int)))))), (62, .d (.fl (.bool ((decide ((k : Int) < (z.hours.length : Int))))))), (6, .d (.fl (.int .i64 (j : Int))))] [(101, .bx 25 (eZn z)), (102, .bx 25 (eZn z))]) (fun j => j ≤ z.steps.length) (fun j => z.steps.length - j) 0 (by omega) (imp_forget rfl ⟨rfl, rfl, rfl, rfl, rfl, rfl, rfl, (by first | rfl | exact ci (by omega) | exact ci (by simp) | exact cd (by simp) | simp), trivial⟩ ⟨rfl, rfl, trivial⟩) (fun j hok => ?_)
    have hj := hok
    refine a_seq ?_
    refine a_rseq ?_
    refine rg_put (d := 76) (v := .d (.fl (.int .i64 (j : Int)))) rfl (og rfl (op_move rfl rfl rfl)) ?_
    refine rg_put (d := 77) (v := .pt 101 2) rfl (og rfl (of_eff (s_field_pt rfl Try.underlying25 rfl ti23 rfl rfl rfl) rfl)) ?_
    refine rg_put (d := 78) (v := .d (.sl 3 (List.map eStp z.steps))) rfl (og rfl (op_load_pt rfl Try.underlying23 rfl rfl rfl rfl rfl)) ?_
    refine rg_put (d := 79) (v := .d (.fl (.int .i64 (z.steps.length : Int)))) rfl (og rfl (s_len rfl Try.underlying23 rfl rfl)) ?_
    refine rg_put (d := 80) (v := .d (.fl (.bool ((decide ((j : Int) < (z.steps.length : Int))))))) rfl (og rfl (op_bin rfl rfl rfl (b_lss _ _ _ _) rfl)) ?_
    refine rg_done rfl ?_
    refine a_cond rfl (fun h4 => ?_) (fun h4 => ?_)
    · skip
      have h5 := t_dec h4
      refine a_skip ?_
      show A _ _ _ _ _ _ _
      refine a_seq ?_
      refine a_block ?_
      refine a_dseq (by kernel_rfl) ?_
      refine dr_put (d := 83) (v := .pt 101 2) rfl (og rfl (of_eff (s_field_pt rfl Try.underlying25 rfl ti23 rfl rfl rfl) rfl)) ?_
      refine dr_put (d := 84) (v := .d (.sl 3 (List.map eStp z.steps))) rfl (og rfl (op_load_pt rfl Try.underlying23 rfl rfl rfl rfl rfl)) ?_
      refine dr_put (d := 85) (v := .d (.fl (.int .i64 (j : Int)))) rfl (og rfl (op_move rfl rfl rfl)) ?_
      refine dr_put (d := 86) (v := .el ((eStp (ix z.steps j)))) rfl (og rfl (s_index rfl Try.underlying23 ti45 rfl rfl (by omega) (row_at (by omega)) rfl)) ?_
      refine dr_put (d := 87) (v := .d (.ag (eStp (ix z.steps j)))) rfl (og rfl (of_eff (s_load_els rfl Try.underlying45 rfl ti45 rfl rfl rfl) rfl)) ?_
      refine dr_put (d := 88) (v := .pt 102 2) rfl (og rfl (of_eff (s_field_pt rfl Try.underlying25 rfl ti23 rfl rfl rfl) rfl)) ?_
      refine dr_put (d := 89) (v := .d (.sl 3 (List.map eStp z.steps))) rfl (og rfl (op_load_pt rfl Try.underlying23 rfl rfl rfl rfl rfl)) ?_
      refine dr_put (d := 90) (v := .d (.fl (.int .i64 (j : Int)))) rfl (og rfl (op_move rfl rfl rfl)) ?_
      refine dr_put (d := 91) (v := .el ((eStp (ix z.steps j)))) rfl (og rfl (s_index rfl Try.underlying23 ti45 rfl rfl (by omega) (row_at (by omega)) rfl)) ?_
      refine dr_put (d := 92) (v := .d (.ag (eStp (ix z.steps j)))) rfl (og rfl (of_eff (s_load_els rfl Try.underlying45 rfl ti45 rfl rfl rfl) rfl)) ?_
      refine dr_put (d := 93) (v := .d (.fl (.bool false))) rfl (og rfl (op_eqS [.int .i64 ((ix z.steps j).upto), .int .i64 ((ix z.steps j).unit), .int .i64 ((ix z.steps j).cents)] [.int .i64 ((ix z.steps j).upto), .int .i64 ((ix z.steps j).unit), .int .i64 ((ix z.steps j).cents)] rfl rfl rfl (b := false) (fun ww => neq45 (ix z.steps j) _ _ ww) rfl)) ?_
      refine dr_done rfl (by kernel_rfl) (by kernel_rfl) ?_
      refine a_condF rfl rfl ?_
      refine a_skip ?_
      show A _ _ _ _ _ _ _
      refine a_region ?_
      refine rg_put (d := 81) (v := .d (.fl (.int .i64 (j : Int)))) rfl (og rfl (op_move rfl rfl rfl)) ?_
      refine rg_put (d := 82) (v := .d (.fl (.int .i64 (((j : Int) + 1))))) rfl (og rfl (op_bin rfl rfl rfl (fun x y w => b_add64 _ _ _ x y w (by omega)) rfl)) ?_
      refine rg_put (d := 6) (v := .d (.fl (.int .i64 (((j : Int) + 1))))) rfl (og rfl (op_assign rfl rfl rfl)) ?_
      refine rg_done rfl ?_
      show ∃ i, _ ∧ _ ∧ Imp _ _ _ _ _
      refine ⟨j + 1, (by omega), by omega, imp_forget rfl ⟨rfl, rfl, rfl, rfl, rfl, rfl, rfl, (by first | rfl | exact ci (by omega) | exact ci (by simp) | exact cd (by simp) | simp), trivial⟩ ⟨rfl, rfl, trivial⟩⟩
    · skip
      have h6 := f_dec h4
      refine a_exit ?_
      show A _ _ _ _ _ _ _
      refine a_rseq ?_
      refine rg_put (d := 4) (v := .d (.fl (.bool true))) rfl (og rfl (op_assign rfl rfl rfl)) ?_
      refine rg_done rfl ?_
      refine a_ret ?_
      show ∃ ds, ResL _ _ _ ds ∧ RV.of ds = _
      refine ⟨[.fl (.bool true)], (.cons (.tmp rfl (.d _)) .nil), ?_⟩
      rfl
set_option maxHeartbeats 4000000 in
set_option maxRecDepth 100000 in
theorem chkV (l : List Zn) (hl : l.length ≤ 1100) (hz : ∀ q, q < l.length → grt (ix l q) = false) : Ctr Try.prog 12 [.sl 7 (List.map eZn l)] (.d (.fl (.int .i64 (chk l)))) := by
  refine ctr (n := 30) (rs := #[.tmp 2]) (L := [(0, .d (.sl 7 (List.map eZn l)))]) Try.func12 rfl rfl rfl rfl rfl (fun w0 U0 => ?_)
  refine a_rseq ?_
  refine rg_put (d := 2) (v := .d (.fl (.int .i64 0))) rfl (og rfl (op_assign rfl rfl rfl)) ?_
  refine rg_done rfl ?_
  refine a_seq ?_
  refine a_rseq ?_
  refine rg_put (d := 7) (v := .d (.sl 7 (List.map eZn l))) rfl (og rfl (op_move rfl rfl rfl)) ?_
  refine rg_put (d := 8) (v := .d (.fl (.int .i64 (l.length : Int)))) rfl (og rfl (s_len rfl Try.underlying31 rfl rfl)) ?_
  refine rg_put (d := 9) (v := .d (.fl (.bool ((decide (1024 < (l.length : Int))))))) rfl (og rfl (op_bin rfl rfl rfl (b_gtr _ _ _ _) rfl)) ?_
  refine rg_done rfl ?_
  refine a_cond rfl (fun h1 => ?_) (fun h1 => ?_)
  · skip
    have h2 := t_dec h1
    refine a_rseq ?_
    refine rg_put (d := 2) (v := .d (.fl (.int .i64 3))) rfl (og rfl (op_assign rfl rfl rfl)) ?_
    refine rg_done rfl ?_
    refine a_ret ?_
    show ∃ ds, ResL _ _ _ ds ∧ RV.of ds = _
    refine ⟨[.fl (.int .i64 3)], (.cons (.tmp rfl (.d _)) .nil), ?_⟩
    rw [chk_lim h1]; rfl
  · skip
    have h3 := f_dec h1
    refine a_skip ?_
    show A _ _ _ _ _ _ _
    refine a_rseq ?_
    refine rg_nam (d := 10) (v := .ow 101) (m := 101) (nw := [(101, .mp [])]) rfl (og rfl (op_makeMap 101 rfl rfl)) rfl ?_
    refine rg_put (d := 3) (v := .ow 101) rfl (og rfl (op_assign rfl rfl rfl)) ?_
    refine rg_done rfl ?_
    refine a_seq ?_
    refine a_rseq ?_
    refine rg_put (d := 11) (v := .d (.sl 7 (List.map eZn l))) rfl (og rfl (op_move rfl rfl rfl)) ?_
    refine rg_put (d := 12) (v := .d (.fl (.int .i64 (l.length : Int)))) rfl (og rfl (s_len rfl Try.underlying31 rfl rfl)) ?_
    refine rg_put (d := 13) (v := .d (.fl (.int .i64 0))) rfl (og rfl (op_move rfl rfl rfl)) ?_
    refine rg_done rfl ?_
    refine a_block ?_
    refine a_loop (ι := Nat) (fun k => SS [(0, .d (.sl 7 (List.map eZn l))), (3, .ow 101), (9, .d (.fl (.bool ((decide (1024 < (l.length : Int))))))), (11, .d (.sl 7 (List.map eZn l))), (12, .d (.fl (.int .i64 (l.length : Int)))), (13, .d (.fl (.int .i64 (k : Int))))] [(101, .mp ((setD (l.take k))))]) (fun k => k ≤ l.length ∧ dvE l = fe (dv1 l) k (l.length - k)) (fun k => l.length - k) 0 (⟨by omega, rfl⟩) (imp_forget rfl ⟨rfl, rfl, rfl, rfl, rfl, (by first | rfl | exact ci (by omega) | exact ci (by simp) | exact cd (by simp) | simp), trivial⟩ ⟨rfl, trivial⟩) (fun k hok => ?_)
    obtain ⟨hk, hc⟩ := hok
    refine a_rseq ?_
    refine rg_put (d := 14) (v := .d (.fl (.bool ((decide ((k : Int) < (l.length : Int))))))) rfl (og rfl (op_bin rfl rfl rfl (b_lss _ _ _ _) rfl)) ?_
    refine rg_done rfl ?_
    refine a_seq ?_
    refine a_cond rfl (fun h4 => ?_) (fun h4 => ?_)
    · skip
      have h5 := t_dec h4
      refine a_skip ?_
      show A _ _ _ _ _ _ _
      refine a_seq ?_
      refine a_block ?_
      refine a_rseq ?_
      refine rg_put (d := 15) (v := .el ((eZn (ix l k)))) rfl (og rfl (s_index rfl Try.underlying31 ti25 rfl rfl (by omega) (row_at (by omega)) rfl)) ?_
      refine rg_put (d := 16) (v := .d (.ag (eZn (ix l k)))) rfl (og rfl (of_eff (s_load_els rfl Try.underlying25 rfl ti25 rfl rfl rfl) rfl)) ?_
      refine rg_nam (d := 5) (v := .pt 102 0) (m := 102) (nw := [(102, .bx 25 ([.fl (.string (⟨#[]⟩)), .fl (.slice none 0 0), .fl (.slice none 0 0), .fl (.int .i64 0), .fl (.int .i64 0), .fl (.int .i64 0), .fl (.int .i64 0)]))]) rfl (og rfl (of_eff (s_alloc 102 rfl ti25 (by kernel_rfl) rfl) rfl)) rfl ?_
      refine rg_sto (nw := [(102, .bx 25 ((eZn (ix l k))))]) rfl (og rfl (of_eff (s_store rfl rfl ti25 rfl rfl rfl rfl rfl rfl) rfl)) ?_
      refine rg_done rfl ?_
      refine a_seq ?_
      refine a_rseq ?_
      refine rg_put (d := 17) (v := .d (.ag (eZn (ix l k)))) rfl (og rfl (of_eff (s_load_pts rfl Try.underlying25 rfl ti25 rfl rfl rfl rfl) rfl)) ?_
      refine rg_put (d := 18) (v := .d (.fl (.int .i64 ((zck (ix l k)))))) rfl (og rfl (op_call rfl Try.func8 nm8 rfl (.cons rfl (.d _) .nil) (zck8 (ix l k) (grt_f (hz k (by omega))).1 (grt_f (hz k (by omega))).2) rfl)) ?_
      refine rg_put (d := 6) (v := .d (.fl (.int .i64 ((zck (ix l k)))))) rfl (og rfl (op_assign rfl rfl rfl)) ?_
      refine rg_done rfl ?_
      refine a_rseq ?_
      refine rg_put (d := 19) (v := .d (.fl (.int .i64 ((zck (ix l k)))))) rfl (og rfl (op_move rfl rfl rfl)) ?_
      refine rg_put (d := 20) (v := .d (.fl (.bool (((zck (ix l k)) != 0))))) rfl (og rfl (op_bin rfl rfl rfl (b_neq _ _ _ _) rfl)) ?_
      refine rg_done rfl ?_
      refine a_cond rfl (fun h6 => ?_) (fun h6 => ?_)
      · skip
        have h7 := t_bne h6
        refine a_rseq ?_
        refine rg_put (d := 21) (v := .d (.fl (.int .i64 ((zck (ix l k)))))) rfl (og rfl (op_move rfl rfl rfl)) ?_
        refine rg_put (d := 2) (v := .d (.fl (.int .i64 ((zck (ix l k)))))) rfl (og rfl (op_assign rfl rfl rfl)) ?_
        refine rg_done rfl ?_
        refine a_ret ?_
        show ∃ ds, ResL _ _ _ ds ∧ RV.of ds = _
        refine ⟨[.fl (.int .i64 ((zck (ix l k))))], (.cons (.tmp rfl (.d _)) .nil), ?_⟩
        have hb := dv_ck (t_bne h6)
        rw [chk_all h1, fe_yes (by omega) hc hb (t_bne h6)]; rfl
      · skip
        have h8 := f_bne h6
        refine a_skip ?_
        show A _ _ _ _ _ _ _
        refine a_seq ?_
        refine a_rseq ?_
        refine rg_put (d := 22) (v := .ow 101) rfl (og rfl (op_move rfl rfl rfl)) ?_
        refine rg_put (d := 23) (v := .pt 102 0) rfl (og rfl (of_eff (s_field_pt rfl Try.underlying25 rfl ti9 rfl rfl rfl) rfl)) ?_
        refine rg_put (d := 24) (v := .d (.fl (.string ((ix l k).name)))) rfl (og rfl (op_load_pt rfl Try.underlying9 rfl rfl rfl rfl rfl)) ?_
        rcases fot ((dup (l.take k) (ix l k).name)) with h9 | h9
        · skip
          refine rg_put (d := 25) (v := .d (.fl (.bool false))) rfl (og rfl (op_lookup1 rfl Try.underlying58 Try.underlying9 rfl ti4 rfl rfl (.ow rfl) rfl (r := none) ((mfind_set Zn.name _ _).trans (by rw [show (List.any _ _) = _ from h9]; rfl)) rfl rfl)) ?_
          refine rg_done rfl ?_
          refine a_condF rfl rfl ?_
          refine a_skip ?_
          show A _ _ _ _ _ _ _
          refine a_region ?_
          refine rg_put (d := 26) (v := .ow 101) rfl (og rfl (op_move rfl rfl rfl)) ?_
          refine rg_put (d := 27) (v := .pt 102 0) rfl (og rfl (of_eff (s_field_pt rfl Try.underlying25 rfl ti9 rfl rfl rfl) rfl)) ?_
          refine rg_put (d := 28) (v := .d (.fl (.string ((ix l k).name)))) rfl (og rfl (op_load_pt rfl Try.underlying9 rfl rfl rfl rfl rfl)) ?_
          refine rg_sto (nw := [(101, .mp ((setD (l.take k)) ++ [((.string ((ix l k).name)), .fl (.bool true))]))]) rfl (og rfl (op_mapPush rfl rfl Try.underlying58 Try.underlying9 rfl rfl rfl rfl ((mfind_set Zn.name _ _).trans (by rw [show (List.any _ _) = _ from h9]; rfl)) rfl)) ?_
          refine rg_done rfl ?_
          show A _ _ _ _ _ _ _
          refine a_region ?_
          refine rg_put (d := 29) (v := .d (.fl (.int .i64 (((k : Int) + 1))))) rfl (og rfl (op_bin rfl rfl rfl (fun x y w => b_add64 _ _ _ x y w (by omega)) rfl)) ?_
          refine rg_put (d := 13) (v := .d (.fl (.int .i64 (((k : Int) + 1))))) rfl (og rfl (op_move rfl rfl rfl)) ?_
          refine rg_done rfl ?_
          have hb : dv1 l k = 0 := dv_ok (f_bne h6) h9
          show ∃ i, _ ∧ _ ∧ Imp _ _ _ _ _
          refine ⟨k + 1, ⟨by omega, fe_no (by omega) hc hb⟩, by omega, imp_forget rfl ⟨rfl, rfl, rfl, rfl, rfl, (by first | rfl | exact ci (by omega) | exact ci (by simp) | exact cd (by simp) | simp), trivial⟩ ⟨(congrArg (fun z => Ob.mp z) (setD_take (by omega))), trivial⟩⟩
        · skip
          refine rg_put (d := 25) (v := .d (.fl (.bool true))) rfl (og rfl (op_lookup1 rfl Try.underlying58 Try.underlying9 rfl ti4 rfl rfl (.ow rfl) rfl (r := (some (.fl (.bool true)))) ((mfind_set Zn.name _ _).trans (by rw [show (List.any _ _) = _ from h9]; rfl)) rfl rfl)) ?_
          refine rg_done rfl ?_
          refine a_condK rfl rfl ?_
          refine a_rseq ?_
          refine rg_put (d := 2) (v := .d (.fl (.int .i64 9))) rfl (og rfl (op_assign rfl rfl rfl)) ?_
          refine rg_done rfl ?_
          refine a_ret ?_
          show ∃ ds, ResL _ _ _ ds ∧ RV.of ds = _
          refine ⟨[.fl (.int .i64 9)], (.cons (.tmp rfl (.d _)) .nil), ?_⟩
          have hb := dv_dup (f_bne h6) h9
          rw [chk_all h1, fe_yes (by omega) hc hb (by decide)]; rfl
    · skip
      have h10 := f_dec h4
      refine a_exit ?_
      show A _ _ _ _ _ _ _
      refine a_rseq ?_
      refine rg_put (d := 2) (v := .d (.fl (.int .i64 0))) rfl (og rfl (op_assign rfl rfl rfl)) ?_
      refine rg_done rfl ?_
      refine a_ret ?_
      show ∃ ds, ResL _ _ _ ds ∧ RV.of ds = _
      refine ⟨[.fl (.int .i64 0)], (.cons (.tmp rfl (.d _)) .nil), ?_⟩
      rw [fe_end (by omega)] at hc
      rw [chk_all h1, hc]; rfl
set_option maxHeartbeats 4000000 in
set_option maxRecDepth 100000 in
theorem chkR (l : List Zn) (hl : l.length ≤ 1100) (hz : ∀ q, q < l.length → grt (ix l q) = false) : Ctr Try.prog 13 [.sl 7 (List.map eZn l)] (.d (.fl (.int .i64 (chk l)))) := by
  refine ctr (n := 39) (rs := #[.tmp 2]) (L := [(0, .d (.sl 7 (List.map eZn l)))]) Try.func13 rfl rfl rfl rfl rfl (fun w0 U0 => ?_)
  refine a_rseq ?_
  refine rg_put (d := 2) (v := .d (.fl (.int .i64 0))) rfl (og rfl (op_assign rfl rfl rfl)) ?_
  refine rg_done rfl ?_
  refine a_seq ?_
  refine a_rseq ?_
  refine rg_put (d := 6) (v := .d (.sl 7 (List.map eZn l))) rfl (og rfl (op_move rfl rfl rfl)) ?_
  refine rg_put (d := 7) (v := .d (.fl (.int .i64 (l.length : Int)))) rfl (og rfl (s_len rfl Try.underlying31 rfl rfl)) ?_
  refine rg_put (d := 8) (v := .d (.fl (.bool ((decide (1024 < (l.length : Int))))))) rfl (og rfl (op_bin rfl rfl rfl (b_gtr _ _ _ _) rfl)) ?_
  refine rg_done rfl ?_
  refine a_cond rfl (fun h1 => ?_) (fun h1 => ?_)
  · skip
    have h2 := t_dec h1
    refine a_rseq ?_
    refine rg_put (d := 2) (v := .d (.fl (.int .i64 3))) rfl (og rfl (op_assign rfl rfl rfl)) ?_
    refine rg_done rfl ?_
    refine a_ret ?_
    show ∃ ds, ResL _ _ _ ds ∧ RV.of ds = _
    refine ⟨[.fl (.int .i64 3)], (.cons (.tmp rfl (.d _)) .nil), ?_⟩
    rw [chk_lim h1]; rfl
  · skip
    have h3 := f_dec h1
    refine a_skip ?_
    show A _ _ _ _ _ _ _
    refine a_seq ?_
    refine a_rseq ?_
    refine rg_put (d := 3) (v := .d (.fl (.int .i64 0))) rfl (og rfl (op_assign rfl rfl rfl)) ?_
    refine rg_done rfl ?_
    refine a_block ?_
    refine a_loop (ι := Nat) (fun k => SS [(0, .d (.sl 7 (List.map eZn l))), (8, .d (.fl (.bool ((decide (1024 < (l.length : Int))))))), (3, .d (.fl (.int .i64 (k : Int))))] []) (fun k => k ≤ l.length ∧ dvE l = fe (dv1 l) k (l.length - k)) (fun k => l.length - k) 0 (⟨by omega, rfl⟩) (imp_forget rfl ⟨rfl, rfl, (by first | rfl | exact ci (by omega) | exact ci (by simp) | exact cd (by simp) | simp), trivial⟩ trivial) (fun k hok => ?_)
    obtain ⟨hk, hc⟩ := hok
    refine a_seq ?_
    refine a_rseq ?_
    refine rg_put (d := 9) (v := .d (.fl (.int .i64 (k : Int)))) rfl (og rfl (op_move rfl rfl rfl)) ?_
    refine rg_put (d := 10) (v := .d (.sl 7 (List.map eZn l))) rfl (og rfl (op_move rfl rfl rfl)) ?_
    refine rg_put (d := 11) (v := .d (.fl (.int .i64 (l.length : Int)))) rfl (og rfl (s_len rfl Try.underlying31 rfl rfl)) ?_
    refine rg_put (d := 12) (v := .d (.fl (.bool ((decide ((k : Int) < (l.length : Int))))))) rfl (og rfl (op_bin rfl rfl rfl (b_lss _ _ _ _) rfl)) ?_
    refine rg_done rfl ?_
    refine a_cond rfl (fun h4 => ?_) (fun h4 => ?_)
    · skip
      have h5 := t_dec h4
      refine a_skip ?_
      show A _ _ _ _ _ _ _
      refine a_seq ?_
      refine a_block ?_
      refine a_rseq ?_
      refine rg_put (d := 15) (v := .d (.sl 7 (List.map eZn l))) rfl (og rfl (op_move rfl rfl rfl)) ?_
      refine rg_put (d := 16) (v := .d (.fl (.int .i64 (k : Int)))) rfl (og rfl (op_move rfl rfl rfl)) ?_
      refine rg_put (d := 17) (v := .el ((eZn (ix l k)))) rfl (og rfl (s_index rfl Try.underlying31 ti25 rfl rfl (by omega) (row_at (by omega)) rfl)) ?_
      refine rg_put (d := 18) (v := .d (.ag (eZn (ix l k)))) rfl (og rfl (of_eff (s_load_els rfl Try.underlying25 rfl ti25 rfl rfl rfl) rfl)) ?_
      refine rg_put (d := 19) (v := .d (.fl (.int .i64 ((zck (ix l k)))))) rfl (og rfl (op_call rfl Try.func9 nm9 rfl (.cons rfl (.d _) .nil) (zck9 (ix l k) (grt_f (hz k (by omega))).1 (grt_f (hz k (by omega))).2) rfl)) ?_
      refine rg_put (d := 4) (v := .d (.fl (.int .i64 ((zck (ix l k)))))) rfl (og rfl (op_assign rfl rfl rfl)) ?_
      refine rg_done rfl ?_
      refine a_seq ?_
      refine a_rseq ?_
      refine rg_put (d := 20) (v := .d (.fl (.int .i64 ((zck (ix l k)))))) rfl (og rfl (op_move rfl rfl rfl)) ?_
      refine rg_put (d := 21) (v := .d (.fl (.bool (((zck (ix l k)) != 0))))) rfl (og rfl (op_bin rfl rfl rfl (b_neq _ _ _ _) rfl)) ?_
      refine rg_done rfl ?_
      refine a_cond rfl (fun h6 => ?_) (fun h6 => ?_)
      · skip
        have h7 := t_bne h6
        refine a_rseq ?_
        refine rg_put (d := 22) (v := .d (.fl (.int .i64 ((zck (ix l k)))))) rfl (og rfl (op_move rfl rfl rfl)) ?_
        refine rg_put (d := 2) (v := .d (.fl (.int .i64 ((zck (ix l k)))))) rfl (og rfl (op_assign rfl rfl rfl)) ?_
        refine rg_done rfl ?_
        refine a_ret ?_
        show ∃ ds, ResL _ _ _ ds ∧ RV.of ds = _
        refine ⟨[.fl (.int .i64 ((zck (ix l k))))], (.cons (.tmp rfl (.d _)) .nil), ?_⟩
        have hb := dv_ck (t_bne h6)
        rw [chk_all h1, fe_yes (by omega) hc hb (t_bne h6)]; rfl
      · skip
        have h8 := f_bne h6
        refine a_skip ?_
        show A _ _ _ _ _ _ _
        refine a_rseq ?_
        refine rg_put (d := 5) (v := .d (.fl (.int .i64 0))) rfl (og rfl (op_assign rfl rfl rfl)) ?_
        refine rg_done rfl ?_
        refine a_block ?_
        refine a_loop (ι := Nat) (fun j => SS [(0, .d (.sl 7 (List.map eZn l))), (3, .d (.fl (.int .i64 (k : Int)))), (4, .d (.fl (.int .i64 ((zck (ix l k)))))), (8, .d (.fl (.bool ((decide (1024 < (l.length : Int))))))), (12, .d (.fl (.bool ((decide ((k : Int) < (l.length : Int))))))), (21, .d (.fl (.bool (((zck (ix l k)) != 0))))), (5, .d (.fl (.int .i64 (j : Int))))] []) (fun j => j ≤ k ∧ ∀ q, q < j → sEq (ix l q).name (ix l k).name = false) (fun j => k - j) 0 (⟨by omega, fun q h => by omega⟩) (imp_forget rfl ⟨rfl, rfl, rfl, rfl, rfl, rfl, (by first | rfl | exact ci (by omega) | exact ci (by simp) | exact cd (by simp) | simp), trivial⟩ trivial) (fun j hok => ?_)
        obtain ⟨hj, hq⟩ := hok
        refine a_seq ?_
        refine a_rseq ?_
        refine rg_put (d := 23) (v := .d (.fl (.int .i64 (j : Int)))) rfl (og rfl (op_move rfl rfl rfl)) ?_
        refine rg_put (d := 24) (v := .d (.fl (.int .i64 (k : Int)))) rfl (og rfl (op_move rfl rfl rfl)) ?_
        refine rg_put (d := 25) (v := .d (.fl (.bool ((decide ((j : Int) < (k : Int))))))) rfl (og rfl (op_bin rfl rfl rfl (b_lss _ _ _ _) rfl)) ?_
        refine rg_done rfl ?_
        refine a_cond rfl (fun h9 => ?_) (fun h9 => ?_)
        · skip
          have h10 := t_dec h9
          refine a_skip ?_
          show A _ _ _ _ _ _ _
          refine a_seq ?_
          refine a_block ?_
          refine a_dseq (by kernel_rfl) ?_
          refine dr_put (d := 28) (v := .d (.sl 7 (List.map eZn l))) rfl (og rfl (op_move rfl rfl rfl)) ?_
          refine dr_put (d := 29) (v := .d (.fl (.int .i64 (j : Int)))) rfl (og rfl (op_move rfl rfl rfl)) ?_
          refine dr_put (d := 30) (v := .el ((eZn (ix l j)))) rfl (og rfl (s_index rfl Try.underlying31 ti25 rfl rfl (by omega) (row_at (by omega)) rfl)) ?_
          refine dr_put (d := 31) (v := .el ((List.drop 0 ((eZn (ix l j)))))) rfl (og rfl (of_eff (s_field_el rfl Try.underlying25 rfl ti9 rfl rfl rfl) rfl)) ?_
          refine dr_put (d := 32) (v := .d (.fl (.string ((ix l j).name)))) rfl (og rfl (op_load_el rfl Try.underlying9 rfl rfl rfl rfl)) ?_
          refine dr_put (d := 33) (v := .d (.sl 7 (List.map eZn l))) rfl (og rfl (op_move rfl rfl rfl)) ?_
          refine dr_put (d := 34) (v := .d (.fl (.int .i64 (k : Int)))) rfl (og rfl (op_move rfl rfl rfl)) ?_
          refine dr_put (d := 35) (v := .el ((eZn (ix l k)))) rfl (og rfl (s_index rfl Try.underlying31 ti25 rfl rfl (by omega) (row_at (by omega)) rfl)) ?_
          refine dr_put (d := 36) (v := .el ((List.drop 0 ((eZn (ix l k)))))) rfl (og rfl (of_eff (s_field_el rfl Try.underlying25 rfl ti9 rfl rfl rfl) rfl)) ?_
          refine dr_put (d := 37) (v := .d (.fl (.string ((ix l k).name)))) rfl (og rfl (op_load_el rfl Try.underlying9 rfl rfl rfl rfl)) ?_
          refine dr_put (d := 38) (v := .d (.fl (.bool ((sEq ((ix l j).name) ((ix l k).name)))))) rfl (og rfl (op_bin rfl rfl rfl (b_seq _ _ _) rfl)) ?_
          refine dr_done rfl (by kernel_rfl) (by kernel_rfl) ?_
          refine a_cond rfl (fun h11 => ?_) (fun h11 => ?_)
          · skip
            refine a_rseq ?_
            refine rg_put (d := 2) (v := .d (.fl (.int .i64 9))) rfl (og rfl (op_assign rfl rfl rfl)) ?_
            refine rg_done rfl ?_
            refine a_ret ?_
            show ∃ ds, ResL _ _ _ ds ∧ RV.of ds = _
            refine ⟨[.fl (.int .i64 9)], (.cons (.tmp rfl (.d _)) .nil), ?_⟩
            have hb := dv_dup (f_bne h6) (dup_yes (by omega) (by omega) h11)
            rw [chk_all h1, fe_yes (by omega) hc hb (by decide)]; rfl
          · skip
            refine a_skip ?_
            show A _ _ _ _ _ _ _
            refine a_region ?_
            refine rg_put (d := 26) (v := .d (.fl (.int .i64 (j : Int)))) rfl (og rfl (op_move rfl rfl rfl)) ?_
            refine rg_put (d := 27) (v := .d (.fl (.int .i64 (((j : Int) + 1))))) rfl (og rfl (op_bin rfl rfl rfl (fun x y w => b_add64 _ _ _ x y w (by omega)) rfl)) ?_
            refine rg_put (d := 5) (v := .d (.fl (.int .i64 (((j : Int) + 1))))) rfl (og rfl (op_assign rfl rfl rfl)) ?_
            refine rg_done rfl ?_
            have hx : sEq (ix l j).name (ix l k).name = false := h11
            show ∃ i, _ ∧ _ ∧ Imp _ _ _ _ _
            refine ⟨j + 1, ⟨by omega, fun q h => (Nat.lt_succ_iff_lt_or_eq.1 h).elim (hq q) (fun e => by rw [e]; exact hx)⟩, by omega, imp_forget rfl ⟨rfl, rfl, rfl, rfl, rfl, rfl, (by first | rfl | exact ci (by omega) | exact ci (by simp) | exact cd (by simp) | simp), trivial⟩ trivial⟩
        · skip
          have h12 := f_dec h9
          refine a_exit ?_
          show A _ _ _ _ _ _ _
          refine a_region ?_
          have hdu : (dup (l.take k) (ix l k).name) = false := dup_no (by omega) (fun q h => hq q (by omega))
          refine rg_put (d := 13) (v := .d (.fl (.int .i64 (k : Int)))) rfl (og rfl (op_move rfl rfl rfl)) ?_
          refine rg_put (d := 14) (v := .d (.fl (.int .i64 (((k : Int) + 1))))) rfl (og rfl (op_bin rfl rfl rfl (fun x y w => b_add64 _ _ _ x y w (by omega)) rfl)) ?_
          refine rg_put (d := 3) (v := .d (.fl (.int .i64 (((k : Int) + 1))))) rfl (og rfl (op_assign rfl rfl rfl)) ?_
          refine rg_done rfl ?_
          have hb : dv1 l k = 0 := dv_ok (f_bne h6) hdu
          show ∃ i, _ ∧ _ ∧ Imp _ _ _ _ _
          refine ⟨k + 1, ⟨by omega, fe_no (by omega) hc hb⟩, by omega, imp_forget rfl ⟨rfl, rfl, (by first | rfl | exact ci (by omega) | exact ci (by simp) | exact cd (by simp) | simp), trivial⟩ trivial⟩
    · skip
      have h13 := f_dec h4
      refine a_exit ?_
      show A _ _ _ _ _ _ _
      refine a_rseq ?_
      refine rg_put (d := 2) (v := .d (.fl (.int .i64 0))) rfl (og rfl (op_assign rfl rfl rfl)) ?_
      refine rg_done rfl ?_
      refine a_ret ?_
      show ∃ ds, ResL _ _ _ ds ∧ RV.of ds = _
      refine ⟨[.fl (.int .i64 0)], (.cons (.tmp rfl (.d _)) .nil), ?_⟩
      rw [fe_end (by omega)] at hc
      rw [chk_all h1, hc]; rfl
theorem eq_self_bb (a : Bool) : (a == a) = true := by cases a <;> rfl
set_option maxHeartbeats 4000000 in
set_option maxRecDepth 100000 in
theorem law4 (l : List Zn) (nm : ByteArray) : Ctr Try.prog 4 [.sl 7 (List.map eZn l), .fl (.string nm)] (.d (.fl (.bool true))) := by
  refine ctr (n := 55) (rs := #[.tmp 4]) (L := [(0, .d (.sl 7 (List.map eZn l))), (1, .d (.fl (.string nm)))]) Try.func4 rfl rfl rfl rfl rfl (fun w0 U0 => ?_)
  refine a_rseq ?_
  refine rg_put (d := 4) (v := .d (.fl (.bool false))) rfl (og rfl (op_assign rfl rfl rfl)) ?_
  refine rg_done rfl ?_
  refine a_seq ?_
  refine a_rseq ?_
  refine rg_put (d := 11) (v := .d (.sl 7 (List.map eZn l))) rfl (og rfl (op_move rfl rfl rfl)) ?_
  refine rg_put (d := 12) (v := .d (.fl (.int .i64 (l.length : Int)))) rfl (og rfl (s_len rfl Try.underlying31 rfl rfl)) ?_
  refine rg_put (d := 13) (v := .d (.fl (.bool ((decide (1100 < (l.length : Int))))))) rfl (og rfl (op_bin rfl rfl rfl (b_gtr _ _ _ _) rfl)) ?_
  refine rg_done rfl ?_
  refine a_cond rfl (fun h1 => ?_) (fun h1 => ?_)
  · skip
    have h2 := t_dec h1
    refine a_rseq ?_
    refine rg_put (d := 14) (v := .d (.fl (.bool true))) rfl (og rfl (op_call rfl Try.func7 nm7 rfl .nil alive7 rfl)) ?_
    refine rg_put (d := 4) (v := .d (.fl (.bool true))) rfl (og rfl (op_assign rfl rfl rfl)) ?_
    refine rg_done rfl ?_
    refine a_ret ?_
    show ∃ ds, ResL _ _ _ ds ∧ RV.of ds = _
    refine ⟨[.fl (.bool true)], (.cons (.tmp rfl (.d _)) .nil), ?_⟩
    rfl
  · skip
    have h3 := f_dec h1
    refine a_skip ?_
    show A _ _ _ _ _ _ _
    refine a_seq ?_
    refine a_rseq ?_
    refine rg_put (d := 15) (v := .d (.sl 7 (List.map eZn l))) rfl (og rfl (op_move rfl rfl rfl)) ?_
    refine rg_put (d := 16) (v := .d (.fl (.int .i64 (l.length : Int)))) rfl (og rfl (s_len rfl Try.underlying31 rfl rfl)) ?_
    refine rg_put (d := 17) (v := .d (.fl (.int .i64 0))) rfl (og rfl (op_move rfl rfl rfl)) ?_
    refine rg_done rfl ?_
    refine a_block ?_
    refine a_loop (ι := Nat) (fun k => SS [(0, .d (.sl 7 (List.map eZn l))), (1, .d (.fl (.string nm))), (13, .d (.fl (.bool ((decide (1100 < (l.length : Int))))))), (15, .d (.sl 7 (List.map eZn l))), (16, .d (.fl (.int .i64 (l.length : Int)))), (17, .d (.fl (.int .i64 (k : Int))))] []) (fun k => k ≤ l.length ∧ ∀ q, q < k → (grt (ix l q)) = false) (fun k => l.length - k) 0 (⟨by omega, fun q h => by omega⟩) (imp_forget rfl ⟨rfl, rfl, rfl, rfl, rfl, (by first | rfl | exact ci (by omega) | exact ci (by simp) | exact cd (by simp) | simp), trivial⟩ trivial) (fun k hok => ?_)
    obtain ⟨hkk, hq⟩ := hok
    refine a_rseq ?_
    refine rg_put (d := 18) (v := .d (.fl (.bool ((decide ((k : Int) < (l.length : Int))))))) rfl (og rfl (op_bin rfl rfl rfl (b_lss _ _ _ _) rfl)) ?_
    refine rg_done rfl ?_
    refine a_seq ?_
    refine a_cond rfl (fun h4 => ?_) (fun h4 => ?_)
    · skip
      have h5 := t_dec h4
      refine a_skip ?_
      show A _ _ _ _ _ _ _
      refine a_seq ?_
      refine a_block ?_
      refine a_rseq ?_
      refine rg_put (d := 19) (v := .el ((eZn (ix l k)))) rfl (og rfl (s_index rfl Try.underlying31 ti25 rfl rfl (by omega) (row_at (by omega)) rfl)) ?_
      refine rg_put (d := 20) (v := .d (.ag (eZn (ix l k)))) rfl (og rfl (of_eff (s_load_els rfl Try.underlying25 rfl ti25 rfl rfl rfl) rfl)) ?_
      refine rg_nam (d := 6) (v := .pt 101 0) (m := 101) (nw := [(101, .bx 25 ([.fl (.string (⟨#[]⟩)), .fl (.slice none 0 0), .fl (.slice none 0 0), .fl (.int .i64 0), .fl (.int .i64 0), .fl (.int .i64 0), .fl (.int .i64 0)]))]) rfl (og rfl (of_eff (s_alloc 101 rfl ti25 (by kernel_rfl) rfl) rfl)) rfl ?_
      refine rg_sto (nw := [(101, .bx 25 ((eZn (ix l k))))]) rfl (og rfl (of_eff (s_store rfl rfl ti25 rfl rfl rfl rfl rfl rfl) rfl)) ?_
      refine rg_done rfl ?_
      refine a_rseq ?_
      refine rg_put (d := 21) (v := .d (.ag (eZn (ix l k)))) rfl (og rfl (of_eff (s_load_pts rfl Try.underlying25 rfl ti25 rfl rfl rfl rfl) rfl)) ?_
      refine rg_put (d := 22) (v := .d (.fl (.bool ((grt (ix l k)))))) rfl (og rfl (op_call rfl Try.func6 nm6 rfl (.cons rfl (.d _) .nil) (grt6 (ix l k)) rfl)) ?_
      refine rg_done rfl ?_
      refine a_cond rfl (fun h6 => ?_) (fun h6 => ?_)
      · skip
        refine a_rseq ?_
        refine rg_put (d := 23) (v := .d (.fl (.bool true))) rfl (og rfl (op_call rfl Try.func7 nm7 rfl .nil alive7 rfl)) ?_
        refine rg_put (d := 4) (v := .d (.fl (.bool true))) rfl (og rfl (op_assign rfl rfl rfl)) ?_
        refine rg_done rfl ?_
        refine a_ret ?_
        show ∃ ds, ResL _ _ _ ds ∧ RV.of ds = _
        refine ⟨[.fl (.bool true)], (.cons (.tmp rfl (.d _)) .nil), ?_⟩
        rfl
      · skip
        refine a_skip ?_
        show A _ _ _ _ _ _ _
        refine a_region ?_
        refine rg_put (d := 24) (v := .d (.fl (.int .i64 (((k : Int) + 1))))) rfl (og rfl (op_bin rfl rfl rfl (fun x y w => b_add64 _ _ _ x y w (by omega)) rfl)) ?_
        refine rg_put (d := 17) (v := .d (.fl (.int .i64 (((k : Int) + 1))))) rfl (og rfl (op_move rfl rfl rfl)) ?_
        refine rg_done rfl ?_
        have hx : (grt (ix l k)) = false := h6
        show ∃ i, _ ∧ _ ∧ Imp _ _ _ _ _
        refine ⟨k + 1, ⟨by omega, fun q h => (Nat.lt_succ_iff_lt_or_eq.1 h).elim (hq q) (fun e => by rw [e]; exact hx)⟩, by omega, imp_forget rfl ⟨rfl, rfl, rfl, rfl, rfl, (by first | rfl | exact ci (by omega) | exact ci (by simp) | exact cd (by simp) | simp), trivial⟩ trivial⟩
    · skip
      have h7 := f_dec h4
      refine a_exit ?_
      show A _ _ _ _ _ _ _
      refine a_rseq ?_
      have hz : ∀ q, q < l.length → grt (ix l q) = false := fun q h => hq q (by omega)
      refine rg_put (d := 26) (v := .d (.sl 7 (List.map eZn l))) rfl (og rfl (op_move rfl rfl rfl)) ?_
      refine rg_put (d := 27) (v := .d (.fl (.string nm))) rfl (og rfl (op_move rfl rfl rfl)) ?_
      refine rg_put (d := 28) (v := .tu [.ag (eZn ((fz l nm).1)), .fl (.bool ((fz l nm).2))]) rfl (og rfl (op_call rfl Try.func10 nm10 rfl (.cons rfl (.d _) (.cons rfl (.d _) .nil)) (fndV l nm (by omega) hz) rfl)) ?_
      refine rg_put (d := 25) (v := .tu [.ag (eZn ((fz l nm).1)), .fl (.bool ((fz l nm).2))]) rfl (og rfl (op_move rfl rfl rfl)) ?_
      refine rg_put (d := 29) (v := .d (.ag (eZn ((fz l nm).1)))) rfl (og rfl (op_extract rfl rfl rfl rfl)) ?_
      refine rg_put (d := 30) (v := .d (.fl (.bool ((fz l nm).2)))) rfl (og rfl (op_extract rfl rfl rfl rfl)) ?_
      refine rg_nam (d := 7) (v := .pt 102 0) (m := 102) (nw := [(102, .bx 25 ([.fl (.string (⟨#[]⟩)), .fl (.slice none 0 0), .fl (.slice none 0 0), .fl (.int .i64 0), .fl (.int .i64 0), .fl (.int .i64 0), .fl (.int .i64 0)]))]) rfl (og rfl (of_eff (s_alloc 102 rfl ti25 (by kernel_rfl) rfl) rfl)) rfl ?_
      refine rg_sto (nw := [(102, .bx 25 ((eZn ((fz l nm).1))))]) rfl (og rfl (of_eff (s_store rfl rfl ti25 rfl rfl rfl rfl rfl rfl) rfl)) ?_
      refine rg_put (d := 8) (v := .d (.fl (.bool ((fz l nm).2)))) rfl (og rfl (op_assign rfl rfl rfl)) ?_
      refine rg_done rfl ?_
      refine a_rseq ?_
      refine rg_put (d := 32) (v := .d (.sl 7 (List.map eZn l))) rfl (og rfl (op_move rfl rfl rfl)) ?_
      refine rg_put (d := 33) (v := .d (.fl (.string nm))) rfl (og rfl (op_move rfl rfl rfl)) ?_
      refine rg_put (d := 34) (v := .tu [.ag (eZn ((fz l nm).1)), .fl (.bool ((fz l nm).2))]) rfl (og rfl (op_call rfl Try.func11 nm11 rfl (.cons rfl (.d _) (.cons rfl (.d _) .nil)) (fndR l nm (by omega) hz) rfl)) ?_
      refine rg_put (d := 31) (v := .tu [.ag (eZn ((fz l nm).1)), .fl (.bool ((fz l nm).2))]) rfl (og rfl (op_move rfl rfl rfl)) ?_
      refine rg_put (d := 35) (v := .d (.ag (eZn ((fz l nm).1)))) rfl (og rfl (op_extract rfl rfl rfl rfl)) ?_
      refine rg_put (d := 36) (v := .d (.fl (.bool ((fz l nm).2)))) rfl (og rfl (op_extract rfl rfl rfl rfl)) ?_
      refine rg_nam (d := 9) (v := .pt 103 0) (m := 103) (nw := [(103, .bx 25 ([.fl (.string (⟨#[]⟩)), .fl (.slice none 0 0), .fl (.slice none 0 0), .fl (.int .i64 0), .fl (.int .i64 0), .fl (.int .i64 0), .fl (.int .i64 0)]))]) rfl (og rfl (of_eff (s_alloc 103 rfl ti25 (by kernel_rfl) rfl) rfl)) rfl ?_
      refine rg_sto (nw := [(103, .bx 25 ((eZn ((fz l nm).1))))]) rfl (og rfl (of_eff (s_store rfl rfl ti25 rfl rfl rfl rfl rfl rfl) rfl)) ?_
      refine rg_put (d := 10) (v := .d (.fl (.bool ((fz l nm).2)))) rfl (og rfl (op_assign rfl rfl rfl)) ?_
      refine rg_done rfl ?_
      refine a_rseq ?_
      refine rg_put (d := 37) (v := .d (.sl 7 (List.map eZn l))) rfl (og rfl (op_move rfl rfl rfl)) ?_
      refine rg_put (d := 38) (v := .d (.fl (.int .i64 (chk l)))) rfl (og rfl (op_call rfl Try.func12 nm12 rfl (.cons rfl (.d _) .nil) (chkV l (by omega) hz) rfl)) ?_
      refine rg_put (d := 39) (v := .d (.sl 7 (List.map eZn l))) rfl (og rfl (op_move rfl rfl rfl)) ?_
      refine rg_put (d := 40) (v := .d (.fl (.int .i64 (chk l)))) rfl (og rfl (op_call rfl Try.func13 nm13 rfl (.cons rfl (.d _) .nil) (chkR l (by omega) hz) rfl)) ?_
      refine rg_put (d := 41) (v := .d (.fl (.bool (((chk l) == (chk l)))))) rfl (og rfl (op_bin rfl rfl rfl (b_eql _ _ _ _) rfl)) ?_
      refine rg_put (d := 42) (v := .d (.fl (.bool (((chk l) == (chk l)))))) rfl (og rfl (op_move rfl rfl rfl)) ?_
      refine rg_put (d := 43) (v := .d (.fl (.bool ((fz l nm).2)))) rfl (oy rfl rfl rfl (eq_self_b _) (op_move rfl rfl rfl)) ?_
      refine rg_put (d := 44) (v := .d (.fl (.bool ((fz l nm).2)))) rfl (oy rfl rfl rfl (eq_self_b _) (op_move rfl rfl rfl)) ?_
      refine rg_put (d := 45) (v := .d (.fl (.bool (((fz l nm).2 == (fz l nm).2))))) rfl (oy rfl rfl rfl (eq_self_b _) (op_bin rfl rfl rfl (fun x y w => b_beq _ _ _ x y w Try.underlying4) rfl)) ?_
      refine rg_put (d := 46) (v := .d (.fl (.bool (((fz l nm).2 == (fz l nm).2))))) rfl (og rfl (op_pick rfl rfl (by rw [(eq_self_b _)]; rfl) rfl)) ?_
      refine rg_put (d := 47) (v := .d (.fl (.bool (((fz l nm).2 == (fz l nm).2))))) rfl (og rfl (op_move rfl rfl rfl)) ?_
      refine rg_put (d := 48) (v := .d (.ag (eZn ((fz l nm).1)))) rfl (oy rfl rfl rfl (eq_self_bb _) (of_eff (s_load_pts rfl Try.underlying25 rfl ti25 rfl rfl rfl rfl) rfl)) ?_
      refine rg_put (d := 49) (v := .d (.ag (eZn ((fz l nm).1)))) rfl (oy rfl rfl rfl (eq_self_bb _) (of_eff (s_load_pts rfl Try.underlying25 rfl ti25 rfl rfl rfl rfl) rfl)) ?_
      refine rg_put (d := 50) (v := .d (.fl (.bool true))) rfl (oy rfl rfl rfl (eq_self_bb _) (op_call rfl Try.func14 nm14 rfl (.cons rfl (.d _) (.cons rfl (.d _) .nil)) (same14 _ (fz_in hz).1 (fz_in hz).2) rfl)) ?_
      refine rg_put (d := 51) (v := .d (.fl (.bool true))) rfl (og rfl (op_pick rfl rfl (by rw [(eq_self_bb _)]; rfl) rfl)) ?_
      refine rg_put (d := 52) (v := .d (.fl (.bool true))) rfl (og rfl (op_move rfl rfl rfl)) ?_
      refine rg_put (d := 53) (v := .d (.fl (.bool true))) rfl (oy rfl rfl rfl rfl (op_call rfl Try.func7 nm7 rfl .nil alive7 rfl)) ?_
      refine rg_put (d := 54) (v := .d (.fl (.bool true))) rfl (og rfl (op_pick rfl rfl rfl rfl)) ?_
      refine rg_put (d := 4) (v := .d (.fl (.bool true))) rfl (og rfl (op_assign rfl rfl rfl)) ?_
      refine rg_done rfl ?_
      refine a_ret ?_
      show ∃ ds, ResL _ _ _ ds ∧ RV.of ds = _
      refine ⟨[.fl (.bool true)], (.cons (.tmp rfl (.d _)) .nil), ?_⟩
      rfl
end Go.Proofs.Ytcneahkgcljdoaa.Wk
