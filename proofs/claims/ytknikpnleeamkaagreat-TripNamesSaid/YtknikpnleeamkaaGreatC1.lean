/- The names and the span of a trip, both sides; the law. Conditions: as each theorem names them. -/
import Derived.Test.YtknikpnleeamkaaGreatAl
set_option linter.unusedSimpArgs false
set_option linter.unusedVariables false
namespace Go.Proofs.YtknikpnleeamkaaGreat.Wk
open Go Go.RowKit Go.Proofs.YtknikpnleeamkaaGreat.Av
theorem ne_self_b (a : Int) : (a != a) = false := by simp
theorem sEq_eq {a b : ByteArray} (h : sEq a b = true) : a = b := of_decide_eq_true h
theorem sEq_of {a b : ByteArray} (h : a = b) : sEq a b = true := decide_eq_true h
theorem nb {b : Bool} (h : ¬ b = true) : b = false := by cases b <;> simp at h ⊢
theorem nnb {b : Bool} (h : ¬ (!b) = true) : b = true := by cases b <;> simp at h ⊢

theorem ix_eq {α : Type} [Inhabited α] {l : List α} {i : Nat} (h : i < l.length) : l[i] = ix l i := by
  have := ix_get h
  rw [List.getElem?_eq_getElem h] at this
  injection this
theorem ix_mem {α : Type} [Inhabited α] {l : List α} {k : Nat} (h : k < l.length) : ix l k ∈ l := by rw [← ix_eq h]; exact List.getElem_mem h
theorem mem_ix {α : Type} [Inhabited α] {l : List α} {x : α} (h : x ∈ l) : ∃ k, k < l.length ∧ ix l k = x := by
  obtain ⟨j, hj, he⟩ := List.mem_iff_getElem.1 h
  exact ⟨j, hj, by rw [← ix_eq hj]; exact he⟩
theorem fnd_no {α : Type} [Inhabited α] {p : α → Bool} {l : List α} (h : ∀ q, q < l.length → p (ix l q) = false) : l.find? p = none := by
  rw [List.find?_eq_none]
  intro x hx
  obtain ⟨k, hk, he⟩ := mem_ix hx
  rw [← he, h k hk]; simp
theorem fnd_at {α : Type} [Inhabited α] {p : α → Bool} {l : List α} {k : Nat} (hk : k < l.length) (h : ∀ q, q < k → p (ix l q) = false) (hp : p (ix l k) = true) : l.find? p = some (ix l k) := by
  rw [List.find?_eq_some_iff_getElem]
  refine ⟨hp, k, hk, ix_eq hk, fun j hj => ?_⟩
  rw [ix_eq (by omega), h j hj]; rfl
theorem any_at {α : Type} [Inhabited α] {p : α → Bool} {l : List α} {k : Nat} (hk : k < l.length) (hp : p (ix l k) = true) : l.any p = true := by
  rw [List.any_eq_true]; exact ⟨_, ix_mem hk, hp⟩
theorem any_no {α : Type} [Inhabited α] {p : α → Bool} {l : List α} (h : ∀ q, q < l.length → p (ix l q) = false) : l.any p = false := by
  rw [List.any_eq_false]
  intro x hx
  obtain ⟨k, hk, he⟩ := mem_ix hx
  rw [← he, h k hk]; simp
theorem all_no {α : Type} [Inhabited α] {p : α → Bool} {l : List α} {k : Nat} (hk : k < l.length) (h : p (ix l k) = false) : l.all p = false := by
  rw [List.all_eq_false]; exact ⟨_, ix_mem hk, by rw [h]; simp⟩
theorem all_yes {α : Type} [Inhabited α] {p : α → Bool} {l : List α} (h : ∀ q, q < l.length → p (ix l q) = true) : l.all p = true := by
  rw [List.all_eq_true]
  intro x hx
  obtain ⟨k, hk, he⟩ := mem_ix hx
  rw [← he]; exact h k hk
def nE (s : Sto) : Bool := !(sEq s.pass ⟨#[]⟩)
def pas (l : List Sto) : List ByteArray := (l.filter nE).map Sto.pass
theorem pas_y {l : List Sto} {k : Nat} (h : k < l.length) (hb : sEq (ix l k).pass ⟨#[]⟩ = false) : (pas (l.take k) ++ [(ix l k).pass]) = pas (l.take (k + 1)) := by
  unfold pas
  rw [take_ix h, List.filter_append, List.map_append, List.filter_cons_of_pos (by unfold nE; rw [hb]; rfl)]; rfl
theorem pas_n {l : List Sto} {k : Nat} (h : k < l.length) (hb : sEq (ix l k).pass ⟨#[]⟩ = true) : pas (l.take k) = pas (l.take (k + 1)) := by
  unfold pas
  rw [take_ix h, List.filter_append, List.map_append, List.filter_cons_of_neg (by unfold nE; rw [hb]; simp)]; simp
theorem pas_len (l : List Sto) : (pas l).length ≤ l.length := by unfold pas; rw [List.length_map]; exact List.length_filter_le _ _
theorem pas_tk (l : List Sto) (k : Nat) : (pas (l.take k)).length ≤ l.length := Nat.le_trans (pas_len _) (by simp; omega)
def tid (x : Tp) : ByteArray := match x.stops.find? nE with
  | some s => s.pass
  | none => x.id
theorem tid_at {x : Tp} {k : Nat} (hk : k < x.stops.length) (h : ∀ q, q < k → sEq (ix x.stops q).pass ⟨#[]⟩ = true) (hp : sEq (ix x.stops k).pass ⟨#[]⟩ = false) : tid x = (ix x.stops k).pass := by unfold tid; rw [fnd_at (p := nE) hk (fun q hq => by unfold nE; rw [h q hq]; rfl) (by unfold nE; rw [hp]; rfl)]
theorem tid_no {x : Tp} (h : ∀ q, q < x.stops.length → sEq (ix x.stops q).pass ⟨#[]⟩ = true) : tid x = x.id := by unfold tid; rw [fnd_no (p := nE) (fun q hq => by unfold nE; rw [h q hq]; rfl)]
def spn (x : Tp) : Iv := if x.stops.length = 0 then ⟨0, 0⟩ else ⟨(ix x.stops 0).time, (ix x.stops (((x.stops.length : Int) - 1)).toNat).time + 1⟩

theorem eqI32 (a : Iv) (w : World) : (Op.equalIn 10000 32 (.agg (([.int .i64 a.fr, .int .i64 a.to] : List Value).toArray)) (.agg (([.int .i64 a.fr, .int .i64 a.to] : List Value).toArray))).run Tryz.prog w = .ok true w := by
  have hS : Tryz.prog.underlying 32 = some (.struct (Tryz.prog.fieldsOf 32)) := by kernel_rfl
  have hp : Tryz.prog.stoodInHeld 32 = false := by kernel_rfl
  rw [show (10000 : Nat) = 9999 + 1 from rfl, run_equalIn_agg w 9999 32 _ _ hS hp]
  simp only [Program.fieldsOf, Tryz.underlying32]
  go_simp

theorem eql32 (a : Iv) (x y : Operand) (w : World) : (do eqGuard .eql 32 x y (.agg (([.int .i64 a.fr, .int .i64 a.to] : List Value).toArray)) (.agg (([.int .i64 a.fr, .int .i64 a.to] : List Value).toArray)); binOp .eql 32 (.agg (([.int .i64 a.fr, .int .i64 a.to] : List Value).toArray)) (.agg (([.int .i64 a.fr, .int .i64 a.to] : List Value).toArray)) : Sem Value).run Tryz.prog w = .ok (.bool true) w := by
  have hm : Tryz.prog.eqGuardType Tryz.prog.depth 32 = false := by kernel_rfl
  rw [Sem.run_bind, run_eqGuard_agg w .eql 32 x y _ _ hm, Result.andThen_ok, run_eql_struct, eqI32]
  rfl

theorem neq32 (a : Iv) (x y : Operand) (w : World) : (do eqGuard .neq 32 x y (.agg (([.int .i64 a.fr, .int .i64 a.to] : List Value).toArray)) (.agg (([.int .i64 a.fr, .int .i64 a.to] : List Value).toArray)); binOp .neq 32 (.agg (([.int .i64 a.fr, .int .i64 a.to] : List Value).toArray)) (.agg (([.int .i64 a.fr, .int .i64 a.to] : List Value).toArray)) : Sem Value).run Tryz.prog w = .ok (.bool false) w := by
  have hm : Tryz.prog.eqGuardType Tryz.prog.depth 32 = false := by kernel_rfl
  rw [Sem.run_bind, run_eqGuard_agg w .neq 32 x y _ _ hm, Result.andThen_ok, run_neq_struct, eqI32]
  rfl

set_option maxHeartbeats 4000000 in
set_option maxRecDepth 100000 in
theorem pasV (x : Tp) (hl : x.stops.length ≤ 100) : Ctr Tryz.prog 5 [.ag (eTp x)] (.d (.sl 1 (List.map rS (pas x.stops)))) := by
  refine ctr (n := 23) (rs := #[.tmp 2]) (L := [(0, .d (.ag (eTp x)))]) Tryz.func5 rfl rfl rfl rfl rfl (fun w0 U0 => ?_)
  refine a_rseq ?_
  refine rg_nam (d := 1) (v := .pt 101 0) (m := 101) (nw := [(101, .bx 24 (eTp x))]) rfl (og rfl (of_eff (op_box 101 rfl rfl rfl rfl) rfl)) rfl ?_
  refine rg_put (d := 2) (v := .d (.fl (.slice none 0 0))) rfl (og rfl (op_assign rfl rfl rfl)) ?_
  refine rg_done rfl ?_
  refine a_rseq ?_
  refine rg_put (d := 3) (v := .d (.fl (.slice none 0 0))) rfl (og rfl (op_assign rfl rfl rfl)) ?_
  refine rg_done rfl ?_
  refine a_seq ?_
  refine a_rseq ?_
  refine rg_put (d := 6) (v := .pt 101 4) rfl (og rfl (of_eff (s_field_pt rfl Tryz.underlying24 rfl ti22 rfl rfl rfl) rfl)) ?_
  refine rg_put (d := 7) (v := .d (.sl 3 (List.map eSto x.stops))) rfl (og rfl (op_load_pt rfl Tryz.underlying22 rfl rfl rfl rfl rfl)) ?_
  refine rg_put (d := 8) (v := .d (.fl (.int .i64 (x.stops.length : Int)))) rfl (og rfl (s_len rfl Tryz.underlying22 rfl rfl)) ?_
  refine rg_put (d := 9) (v := .d (.fl (.int .i64 0))) rfl (og rfl (op_move rfl rfl rfl)) ?_
  refine rg_done rfl ?_
  refine a_block ?_
  refine a_loop (ι := Nat) (fun k => SS [(0, .d (.ag (eTp x))), (1, .pt 101 0), (2, .d (.fl (.slice none 0 0))), (7, .d (.sl 3 (List.map eSto x.stops))), (8, .d (.fl (.int .i64 (x.stops.length : Int)))), (9, .d (.fl (.int .i64 (k : Int)))), (3, .ow 700)] [(101, .bx 24 (eTp x)), (700, .tr 9 1 (tD rS ((pas (x.stops.take k)))))]) (fun k => k ≤ x.stops.length) (fun k => x.stops.length - k) 0 (by omega) (Imp.trans (imp_nilT 3 700 9 1 rfl rfl) (imp_forget rfl ⟨rfl, rfl, rfl, rfl, rfl, (by first | rfl | exact ci (by omega) | exact ci (by simp) | exact cd (by simp) | simp), (by first | rfl | exact ci (by omega) | exact ci (by simp) | exact cd (by simp) | simp), trivial⟩ ⟨rfl, (by first | rfl | simp), trivial⟩)) (fun k hok => ?_)
  have hk := hok
  refine a_rseq ?_
  refine rg_put (d := 10) (v := .d (.fl (.bool ((decide ((k : Int) < (x.stops.length : Int))))))) rfl (og rfl (op_bin rfl rfl rfl (b_lss _ _ _ _) rfl)) ?_
  refine rg_done rfl ?_
  refine a_seq ?_
  refine a_cond rfl (fun h1 => ?_) (fun h1 => ?_)
  · skip
    have h2 := t_dec h1
    refine a_skip ?_
    show A _ _ _ _ _ _ _
    refine a_seq ?_
    refine a_block ?_
    refine a_rseq ?_
    refine rg_put (d := 11) (v := .el ((eSto (ix x.stops k)))) rfl (og rfl (s_index rfl Tryz.underlying22 ti29 rfl rfl (by omega) (row_at (by omega)) rfl)) ?_
    refine rg_put (d := 12) (v := .d (.ag (eSto (ix x.stops k)))) rfl (og rfl (of_eff (s_load_els rfl Tryz.underlying29 rfl ti29 rfl rfl rfl) rfl)) ?_
    refine rg_nam (d := 5) (v := .pt 102 0) (m := 102) (nw := [(102, .bx 29 ([.fl (.string (⟨#[]⟩)), .fl (.int .i64 0), .fl (.string (⟨#[]⟩))]))]) rfl (og rfl (of_eff (s_alloc 102 rfl ti29 (by kernel_rfl) rfl) rfl)) rfl ?_
    refine rg_sto (nw := [(102, .bx 29 ((eSto (ix x.stops k))))]) rfl (og rfl (of_eff (s_store rfl rfl ti29 rfl rfl rfl rfl rfl rfl) rfl)) ?_
    refine rg_done rfl ?_
    refine a_rseq ?_
    refine rg_put (d := 13) (v := .pt 102 2) rfl (og rfl (of_eff (s_field_pt rfl Tryz.underlying29 rfl ti9 rfl rfl rfl) rfl)) ?_
    refine rg_put (d := 14) (v := .d (.fl (.string ((ix x.stops k).pass)))) rfl (og rfl (op_load_pt rfl Tryz.underlying9 rfl rfl rfl rfl rfl)) ?_
    refine rg_put (d := 15) (v := .d (.fl (.bool ((!(sEq ((ix x.stops k).pass) (⟨#[]⟩))))))) rfl (og rfl (op_bin rfl rfl rfl (b_sne _ _ _) rfl)) ?_
    refine rg_done rfl ?_
    refine a_cond rfl (fun h3 => ?_) (fun h3 => ?_)
    · skip
      have h4 := t_not h3
      refine a_region ?_
      refine rg_put (d := 16) (v := .ow 700) rfl (og rfl (op_move rfl rfl rfl)) ?_
      refine rg_put (d := 17) (v := .pt 102 2) rfl (og rfl (of_eff (s_field_pt rfl Tryz.underlying29 rfl ti9 rfl rfl rfl) rfl)) ?_
      refine rg_put (d := 18) (v := .d (.fl (.string ((ix x.stops k).pass)))) rfl (og rfl (op_load_pt rfl Tryz.underlying9 rfl rfl rfl rfl rfl)) ?_
      refine rg_put (d := 19) (v := .d (.sl 1 (List.map rS [(ix x.stops k).pass]))) rfl (og rfl (of_eff (op_slices rfl Tryz.underlying26 ti9 rfl rfl rfl (by kernel_rfl) (xs := [.fl (.string ((ix x.stops k).pass))]) rfl rfl (.cons rfl rfl (.d _) rfl rfl rfl .nil) rfl) rfl)) ?_
      refine rg_nam (d := 20) (v := .ow 103) (m := 103) (nw := [(103, .tr 9 1 (tD rS (((pas (x.stops.take k)) ++ [(ix x.stops k).pass])))), (700, .no)]) rfl (og rfl (of_eff (s_append_td 103 rfl Tryz.underlying26 ti9 rfl rfl rfl rfl rfl (.d _) (by simp only [List.length_append, List.length_cons, List.length_nil]; have := pas_tk x.stops k; omega) rfl) rfl)) rfl ?_
      refine rg_put (d := 3) (v := .ow 103) rfl (og rfl (op_assign rfl rfl rfl)) ?_
      refine rg_done rfl ?_
      show A _ _ _ _ _ _ _
      refine a_region ?_
      refine rg_put (d := 21) (v := .d (.fl (.int .i64 (((k : Int) + 1))))) rfl (og rfl (op_bin rfl rfl rfl (fun x y w => b_add64 _ _ _ x y w (by omega)) rfl)) ?_
      refine rg_put (d := 9) (v := .d (.fl (.int .i64 (((k : Int) + 1))))) rfl (og rfl (op_move rfl rfl rfl)) ?_
      refine rg_done rfl ?_
      show ∃ i, _ ∧ _ ∧ Imp _ _ _ _ _
      refine ⟨k + 1, by omega, by omega, imp_ren (fun m => bif Nat.beq m 700 then 103 else m) rfl ⟨rfl, rfl, rfl, rfl, rfl, (by first | rfl | exact ci (by omega) | exact ci (by simp) | exact cd (by simp) | simp), rfl, trivial⟩ ⟨rfl, (congrArg (fun z => Ob.tr 9 1 (tD rS z)) (pas_y (by omega) h4)), trivial⟩⟩
    · skip
      have h5 := f_not h3
      refine a_skip ?_
      show A _ _ _ _ _ _ _
      refine a_region ?_
      refine rg_put (d := 21) (v := .d (.fl (.int .i64 (((k : Int) + 1))))) rfl (og rfl (op_bin rfl rfl rfl (fun x y w => b_add64 _ _ _ x y w (by omega)) rfl)) ?_
      refine rg_put (d := 9) (v := .d (.fl (.int .i64 (((k : Int) + 1))))) rfl (og rfl (op_move rfl rfl rfl)) ?_
      refine rg_done rfl ?_
      show ∃ i, _ ∧ _ ∧ Imp _ _ _ _ _
      refine ⟨k + 1, by omega, by omega, imp_forget rfl ⟨rfl, rfl, rfl, rfl, rfl, (by first | rfl | exact ci (by omega) | exact ci (by simp) | exact cd (by simp) | simp), rfl, trivial⟩ ⟨rfl, (congrArg (fun z => Ob.tr 9 1 (tD rS z)) (pas_n (by omega) h5)), trivial⟩⟩
  · skip
    have h6 := f_dec h1
    refine a_exit ?_
    show A _ _ _ _ _ _ _
    refine a_rseq ?_
    refine rg_put (d := 22) (v := .ow 700) rfl (og rfl (op_move rfl rfl rfl)) ?_
    refine rg_put (d := 2) (v := .ow 700) rfl (og rfl (op_assign rfl rfl rfl)) ?_
    refine rg_done rfl ?_
    refine a_imp (imp_leakT 2 700 rfl rfl) ?_
    refine a_ret ?_
    show ∃ ds, ResL _ _ _ ds ∧ RV.of ds = _
    refine ⟨[.sl 1 (List.map rS ((pas (x.stops.take k))))], (.cons (.tmp rfl (.d _)) .nil), ?_⟩
    have hkl : k = x.stops.length := by omega
    rw [hkl, List.take_length]; rfl
set_option maxHeartbeats 4000000 in
set_option maxRecDepth 100000 in
theorem pasR (x : Tp) (hl : x.stops.length ≤ 100) : Ctr Tryz.prog 6 [.ag (eTp x)] (.d (.sl 1 (List.map rS (pas x.stops)))) := by
  refine ctr (n := 30) (rs := #[.tmp 2]) (L := [(0, .d (.ag (eTp x)))]) Tryz.func6 rfl rfl rfl rfl rfl (fun w0 U0 => ?_)
  refine a_rseq ?_
  refine rg_nam (d := 1) (v := .pt 101 0) (m := 101) (nw := [(101, .bx 24 (eTp x))]) rfl (og rfl (of_eff (op_box 101 rfl rfl rfl rfl) rfl)) rfl ?_
  refine rg_put (d := 2) (v := .d (.fl (.slice none 0 0))) rfl (og rfl (op_assign rfl rfl rfl)) ?_
  refine rg_done rfl ?_
  refine a_rseq ?_
  refine rg_nam (d := 5) (v := .ow 102) (m := 102) (nw := [(102, .tr 9 1 (tD rS []))]) rfl (og rfl (of_eff (op_slice0 102 rfl Tryz.underlying26 ti9 rfl) rfl)) rfl ?_
  refine rg_put (d := 3) (v := .ow 102) rfl (og rfl (op_assign rfl rfl rfl)) ?_
  refine rg_done rfl ?_
  refine a_seq ?_
  refine a_rseq ?_
  refine rg_put (d := 4) (v := .d (.fl (.int .i64 0))) rfl (og rfl (op_assign rfl rfl rfl)) ?_
  refine rg_done rfl ?_
  refine a_block ?_
  refine a_loop (ι := Nat) (fun k => SS [(0, .d (.ag (eTp x))), (1, .pt 101 0), (2, .d (.fl (.slice none 0 0))), (4, .d (.fl (.int .i64 (k : Int)))), (3, .ow 102)] [(101, .bx 24 (eTp x)), (102, .tr 9 1 (tD rS ((pas (x.stops.take k)))))]) (fun k => k ≤ x.stops.length) (fun k => x.stops.length - k) 0 (by omega) (imp_forget rfl ⟨rfl, rfl, rfl, (by first | rfl | exact ci (by omega) | exact ci (by simp) | exact cd (by simp) | simp), (by first | rfl | exact ci (by omega) | exact ci (by simp) | exact cd (by simp) | simp), trivial⟩ ⟨rfl, (by first | rfl | simp), trivial⟩) (fun k hok => ?_)
  have hk := hok
  refine a_seq ?_
  refine a_rseq ?_
  refine rg_put (d := 6) (v := .d (.fl (.int .i64 (k : Int)))) rfl (og rfl (op_move rfl rfl rfl)) ?_
  refine rg_put (d := 7) (v := .pt 101 4) rfl (og rfl (of_eff (s_field_pt rfl Tryz.underlying24 rfl ti22 rfl rfl rfl) rfl)) ?_
  refine rg_put (d := 8) (v := .d (.sl 3 (List.map eSto x.stops))) rfl (og rfl (op_load_pt rfl Tryz.underlying22 rfl rfl rfl rfl rfl)) ?_
  refine rg_put (d := 9) (v := .d (.fl (.int .i64 (x.stops.length : Int)))) rfl (og rfl (s_len rfl Tryz.underlying22 rfl rfl)) ?_
  refine rg_put (d := 10) (v := .d (.fl (.bool ((decide ((k : Int) < (x.stops.length : Int))))))) rfl (og rfl (op_bin rfl rfl rfl (b_lss _ _ _ _) rfl)) ?_
  refine rg_done rfl ?_
  refine a_cond rfl (fun h1 => ?_) (fun h1 => ?_)
  · skip
    have h2 := t_dec h1
    refine a_skip ?_
    show A _ _ _ _ _ _ _
    refine a_seq ?_
    refine a_block ?_
    refine a_rseq ?_
    refine rg_put (d := 13) (v := .pt 101 4) rfl (og rfl (of_eff (s_field_pt rfl Tryz.underlying24 rfl ti22 rfl rfl rfl) rfl)) ?_
    refine rg_put (d := 14) (v := .d (.sl 3 (List.map eSto x.stops))) rfl (og rfl (op_load_pt rfl Tryz.underlying22 rfl rfl rfl rfl rfl)) ?_
    refine rg_put (d := 15) (v := .d (.fl (.int .i64 (k : Int)))) rfl (og rfl (op_move rfl rfl rfl)) ?_
    refine rg_put (d := 16) (v := .el ((eSto (ix x.stops k)))) rfl (og rfl (s_index rfl Tryz.underlying22 ti29 rfl rfl (by omega) (row_at (by omega)) rfl)) ?_
    refine rg_put (d := 17) (v := .el ((List.drop 2 ((eSto (ix x.stops k)))))) rfl (og rfl (of_eff (s_field_el rfl Tryz.underlying29 rfl ti9 rfl rfl rfl) rfl)) ?_
    refine rg_put (d := 18) (v := .d (.fl (.string ((ix x.stops k).pass)))) rfl (og rfl (op_load_el rfl Tryz.underlying9 rfl rfl rfl rfl)) ?_
    refine rg_put (d := 19) (v := .d (.fl (.bool ((!(sEq ((ix x.stops k).pass) (⟨#[]⟩))))))) rfl (og rfl (op_bin rfl rfl rfl (b_sne _ _ _) rfl)) ?_
    refine rg_done rfl ?_
    refine a_cond rfl (fun h3 => ?_) (fun h3 => ?_)
    · skip
      have h4 := t_not h3
      refine a_region ?_
      refine rg_put (d := 20) (v := .ow 102) rfl (og rfl (op_move rfl rfl rfl)) ?_
      refine rg_put (d := 21) (v := .pt 101 4) rfl (og rfl (of_eff (s_field_pt rfl Tryz.underlying24 rfl ti22 rfl rfl rfl) rfl)) ?_
      refine rg_put (d := 22) (v := .d (.sl 3 (List.map eSto x.stops))) rfl (og rfl (op_load_pt rfl Tryz.underlying22 rfl rfl rfl rfl rfl)) ?_
      refine rg_put (d := 23) (v := .d (.fl (.int .i64 (k : Int)))) rfl (og rfl (op_move rfl rfl rfl)) ?_
      refine rg_put (d := 24) (v := .el ((eSto (ix x.stops k)))) rfl (og rfl (s_index rfl Tryz.underlying22 ti29 rfl rfl (by omega) (row_at (by omega)) rfl)) ?_
      refine rg_put (d := 25) (v := .el ((List.drop 2 ((eSto (ix x.stops k)))))) rfl (og rfl (of_eff (s_field_el rfl Tryz.underlying29 rfl ti9 rfl rfl rfl) rfl)) ?_
      refine rg_put (d := 26) (v := .d (.fl (.string ((ix x.stops k).pass)))) rfl (og rfl (op_load_el rfl Tryz.underlying9 rfl rfl rfl rfl)) ?_
      refine rg_put (d := 27) (v := .d (.sl 1 (List.map rS [(ix x.stops k).pass]))) rfl (og rfl (of_eff (op_slices rfl Tryz.underlying26 ti9 rfl rfl rfl (by kernel_rfl) (xs := [.fl (.string ((ix x.stops k).pass))]) rfl rfl (.cons rfl rfl (.d _) rfl rfl rfl .nil) rfl) rfl)) ?_
      refine rg_nam (d := 28) (v := .ow 103) (m := 103) (nw := [(103, .tr 9 1 (tD rS (((pas (x.stops.take k)) ++ [(ix x.stops k).pass])))), (102, .no)]) rfl (og rfl (of_eff (s_append_td 103 rfl Tryz.underlying26 ti9 rfl rfl rfl rfl rfl (.d _) (by simp only [List.length_append, List.length_cons, List.length_nil]; have := pas_tk x.stops k; omega) rfl) rfl)) rfl ?_
      refine rg_put (d := 3) (v := .ow 103) rfl (og rfl (op_assign rfl rfl rfl)) ?_
      refine rg_done rfl ?_
      show A _ _ _ _ _ _ _
      refine a_region ?_
      refine rg_put (d := 11) (v := .d (.fl (.int .i64 (k : Int)))) rfl (og rfl (op_move rfl rfl rfl)) ?_
      refine rg_put (d := 12) (v := .d (.fl (.int .i64 (((k : Int) + 1))))) rfl (og rfl (op_bin rfl rfl rfl (fun x y w => b_add64 _ _ _ x y w (by omega)) rfl)) ?_
      refine rg_put (d := 4) (v := .d (.fl (.int .i64 (((k : Int) + 1))))) rfl (og rfl (op_assign rfl rfl rfl)) ?_
      refine rg_done rfl ?_
      show ∃ i, _ ∧ _ ∧ Imp _ _ _ _ _
      refine ⟨k + 1, by omega, by omega, imp_ren (fun m => bif Nat.beq m 102 then 103 else m) rfl ⟨rfl, rfl, rfl, (by first | rfl | exact ci (by omega) | exact ci (by simp) | exact cd (by simp) | simp), rfl, trivial⟩ ⟨rfl, (congrArg (fun z => Ob.tr 9 1 (tD rS z)) (pas_y (by omega) h4)), trivial⟩⟩
    · skip
      have h5 := f_not h3
      refine a_skip ?_
      show A _ _ _ _ _ _ _
      refine a_region ?_
      refine rg_put (d := 11) (v := .d (.fl (.int .i64 (k : Int)))) rfl (og rfl (op_move rfl rfl rfl)) ?_
      refine rg_put (d := 12) (v := .d (.fl (.int .i64 (((k : Int) + 1))))) rfl (og rfl (op_bin rfl rfl rfl (fun x y w => b_add64 _ _ _ x y w (by omega)) rfl)) ?_
      refine rg_put (d := 4) (v := .d (.fl (.int .i64 (((k : Int) + 1))))) rfl (og rfl (op_assign rfl rfl rfl)) ?_
      refine rg_done rfl ?_
      show ∃ i, _ ∧ _ ∧ Imp _ _ _ _ _
      refine ⟨k + 1, by omega, by omega, imp_forget rfl ⟨rfl, rfl, rfl, (by first | rfl | exact ci (by omega) | exact ci (by simp) | exact cd (by simp) | simp), rfl, trivial⟩ ⟨rfl, (congrArg (fun z => Ob.tr 9 1 (tD rS z)) (pas_n (by omega) h5)), trivial⟩⟩
  · skip
    have h6 := f_dec h1
    refine a_exit ?_
    show A _ _ _ _ _ _ _
    refine a_rseq ?_
    refine rg_put (d := 29) (v := .ow 102) rfl (og rfl (op_move rfl rfl rfl)) ?_
    refine rg_put (d := 2) (v := .ow 102) rfl (og rfl (op_assign rfl rfl rfl)) ?_
    refine rg_done rfl ?_
    refine a_imp (imp_leakT 2 102 rfl rfl) ?_
    refine a_ret ?_
    show ∃ ds, ResL _ _ _ ds ∧ RV.of ds = _
    refine ⟨[.sl 1 (List.map rS ((pas (x.stops.take k))))], (.cons (.tmp rfl (.d _)) .nil), ?_⟩
    have hkl : k = x.stops.length := by omega
    rw [hkl, List.take_length]; rfl
set_option maxHeartbeats 4000000 in
set_option maxRecDepth 100000 in
theorem tidV (x : Tp) (hl : x.stops.length ≤ 100) : Ctr Tryz.prog 7 [.ag (eTp x)] (.d (.fl (.string (tid x)))) := by
  refine ctr (n := 20) (rs := #[.tmp 2]) (L := [(0, .d (.ag (eTp x)))]) Tryz.func7 rfl rfl rfl rfl rfl (fun w0 U0 => ?_)
  refine a_rseq ?_
  refine rg_nam (d := 1) (v := .pt 101 0) (m := 101) (nw := [(101, .bx 24 (eTp x))]) rfl (og rfl (of_eff (op_box 101 rfl rfl rfl rfl) rfl)) rfl ?_
  refine rg_put (d := 2) (v := .d (.fl (.string (⟨#[]⟩)))) rfl (og rfl (op_assign rfl rfl rfl)) ?_
  refine rg_done rfl ?_
  refine a_seq ?_
  refine a_rseq ?_
  refine rg_put (d := 5) (v := .pt 101 4) rfl (og rfl (of_eff (s_field_pt rfl Tryz.underlying24 rfl ti22 rfl rfl rfl) rfl)) ?_
  refine rg_put (d := 6) (v := .d (.sl 3 (List.map eSto x.stops))) rfl (og rfl (op_load_pt rfl Tryz.underlying22 rfl rfl rfl rfl rfl)) ?_
  refine rg_put (d := 7) (v := .d (.fl (.int .i64 (x.stops.length : Int)))) rfl (og rfl (s_len rfl Tryz.underlying22 rfl rfl)) ?_
  refine rg_put (d := 8) (v := .d (.fl (.int .i64 0))) rfl (og rfl (op_move rfl rfl rfl)) ?_
  refine rg_done rfl ?_
  refine a_block ?_
  refine a_loop (ι := Nat) (fun k => SS [(0, .d (.ag (eTp x))), (1, .pt 101 0), (6, .d (.sl 3 (List.map eSto x.stops))), (7, .d (.fl (.int .i64 (x.stops.length : Int)))), (8, .d (.fl (.int .i64 (k : Int))))] [(101, .bx 24 (eTp x))]) (fun k => k ≤ x.stops.length ∧ ∀ q, q < k → (sEq (ix x.stops q).pass ⟨#[]⟩) = true) (fun k => x.stops.length - k) 0 (⟨by omega, fun q h => by omega⟩) (imp_forget rfl ⟨rfl, rfl, rfl, rfl, (by first | rfl | exact ci (by omega) | exact ci (by simp) | exact cd (by simp) | simp), trivial⟩ ⟨rfl, trivial⟩) (fun k hok => ?_)
  obtain ⟨hkk, hq⟩ := hok
  refine a_rseq ?_
  refine rg_put (d := 9) (v := .d (.fl (.bool ((decide ((k : Int) < (x.stops.length : Int))))))) rfl (og rfl (op_bin rfl rfl rfl (b_lss _ _ _ _) rfl)) ?_
  refine rg_done rfl ?_
  refine a_seq ?_
  refine a_cond rfl (fun h1 => ?_) (fun h1 => ?_)
  · skip
    have h2 := t_dec h1
    refine a_skip ?_
    show A _ _ _ _ _ _ _
    refine a_seq ?_
    refine a_block ?_
    refine a_rseq ?_
    refine rg_put (d := 10) (v := .el ((eSto (ix x.stops k)))) rfl (og rfl (s_index rfl Tryz.underlying22 ti29 rfl rfl (by omega) (row_at (by omega)) rfl)) ?_
    refine rg_put (d := 11) (v := .d (.ag (eSto (ix x.stops k)))) rfl (og rfl (of_eff (s_load_els rfl Tryz.underlying29 rfl ti29 rfl rfl rfl) rfl)) ?_
    refine rg_nam (d := 4) (v := .pt 102 0) (m := 102) (nw := [(102, .bx 29 ([.fl (.string (⟨#[]⟩)), .fl (.int .i64 0), .fl (.string (⟨#[]⟩))]))]) rfl (og rfl (of_eff (s_alloc 102 rfl ti29 (by kernel_rfl) rfl) rfl)) rfl ?_
    refine rg_sto (nw := [(102, .bx 29 ((eSto (ix x.stops k))))]) rfl (og rfl (of_eff (s_store rfl rfl ti29 rfl rfl rfl rfl rfl rfl) rfl)) ?_
    refine rg_done rfl ?_
    refine a_rseq ?_
    refine rg_put (d := 12) (v := .pt 102 2) rfl (og rfl (of_eff (s_field_pt rfl Tryz.underlying29 rfl ti9 rfl rfl rfl) rfl)) ?_
    refine rg_put (d := 13) (v := .d (.fl (.string ((ix x.stops k).pass)))) rfl (og rfl (op_load_pt rfl Tryz.underlying9 rfl rfl rfl rfl rfl)) ?_
    refine rg_put (d := 14) (v := .d (.fl (.bool ((!(sEq ((ix x.stops k).pass) (⟨#[]⟩))))))) rfl (og rfl (op_bin rfl rfl rfl (b_sne _ _ _) rfl)) ?_
    refine rg_done rfl ?_
    refine a_cond rfl (fun h3 => ?_) (fun h3 => ?_)
    · skip
      have h4 := t_not h3
      refine a_rseq ?_
      refine rg_put (d := 15) (v := .pt 102 2) rfl (og rfl (of_eff (s_field_pt rfl Tryz.underlying29 rfl ti9 rfl rfl rfl) rfl)) ?_
      refine rg_put (d := 16) (v := .d (.fl (.string ((ix x.stops k).pass)))) rfl (og rfl (op_load_pt rfl Tryz.underlying9 rfl rfl rfl rfl rfl)) ?_
      refine rg_put (d := 2) (v := .d (.fl (.string ((ix x.stops k).pass)))) rfl (og rfl (op_assign rfl rfl rfl)) ?_
      refine rg_done rfl ?_
      refine a_ret ?_
      show ∃ ds, ResL _ _ _ ds ∧ RV.of ds = _
      refine ⟨[.fl (.string ((ix x.stops k).pass))], (.cons (.tmp rfl (.d _)) .nil), ?_⟩
      rw [tid_at (by omega) hq h4]; rfl
    · skip
      have h5 := f_not h3
      refine a_skip ?_
      show A _ _ _ _ _ _ _
      refine a_region ?_
      refine rg_put (d := 17) (v := .d (.fl (.int .i64 (((k : Int) + 1))))) rfl (og rfl (op_bin rfl rfl rfl (fun x y w => b_add64 _ _ _ x y w (by omega)) rfl)) ?_
      refine rg_put (d := 8) (v := .d (.fl (.int .i64 (((k : Int) + 1))))) rfl (og rfl (op_move rfl rfl rfl)) ?_
      refine rg_done rfl ?_
      have hx : (sEq (ix x.stops k).pass ⟨#[]⟩) = true := h5
      show ∃ i, _ ∧ _ ∧ Imp _ _ _ _ _
      refine ⟨k + 1, ⟨by omega, fun q h => (Nat.lt_succ_iff_lt_or_eq.1 h).elim (hq q) (fun e => by rw [e]; exact hx)⟩, by omega, imp_forget rfl ⟨rfl, rfl, rfl, rfl, (by first | rfl | exact ci (by omega) | exact ci (by simp) | exact cd (by simp) | simp), trivial⟩ ⟨rfl, trivial⟩⟩
  · skip
    have h6 := f_dec h1
    refine a_exit ?_
    show A _ _ _ _ _ _ _
    refine a_rseq ?_
    refine rg_put (d := 18) (v := .pt 101 0) rfl (og rfl (of_eff (s_field_pt rfl Tryz.underlying24 rfl ti9 rfl rfl rfl) rfl)) ?_
    refine rg_put (d := 19) (v := .d (.fl (.string x.id))) rfl (og rfl (op_load_pt rfl Tryz.underlying9 rfl rfl rfl rfl rfl)) ?_
    refine rg_put (d := 2) (v := .d (.fl (.string x.id))) rfl (og rfl (op_assign rfl rfl rfl)) ?_
    refine rg_done rfl ?_
    refine a_ret ?_
    show ∃ ds, ResL _ _ _ ds ∧ RV.of ds = _
    refine ⟨[.fl (.string x.id)], (.cons (.tmp rfl (.d _)) .nil), ?_⟩
    rw [tid_no (fun q h => hq q (by omega))]; rfl
set_option maxHeartbeats 4000000 in
set_option maxRecDepth 100000 in
theorem tidR (x : Tp) (hl : x.stops.length ≤ 100) : Ctr Tryz.prog 8 [.ag (eTp x)] (.d (.fl (.string (tid x)))) := by
  refine ctr (n := 26) (rs := #[.tmp 2]) (L := [(0, .d (.ag (eTp x)))]) Tryz.func8 rfl rfl rfl rfl rfl (fun w0 U0 => ?_)
  refine a_rseq ?_
  refine rg_nam (d := 1) (v := .pt 101 0) (m := 101) (nw := [(101, .bx 24 (eTp x))]) rfl (og rfl (of_eff (op_box 101 rfl rfl rfl rfl) rfl)) rfl ?_
  refine rg_put (d := 2) (v := .d (.fl (.string (⟨#[]⟩)))) rfl (og rfl (op_assign rfl rfl rfl)) ?_
  refine rg_done rfl ?_
  refine a_seq ?_
  refine a_rseq ?_
  refine rg_put (d := 3) (v := .d (.fl (.int .i64 0))) rfl (og rfl (op_assign rfl rfl rfl)) ?_
  refine rg_done rfl ?_
  refine a_block ?_
  refine a_loop (ι := Nat) (fun k => SS [(0, .d (.ag (eTp x))), (1, .pt 101 0), (3, .d (.fl (.int .i64 (k : Int))))] [(101, .bx 24 (eTp x))]) (fun k => k ≤ x.stops.length ∧ ∀ q, q < k → (sEq (ix x.stops q).pass ⟨#[]⟩) = true) (fun k => x.stops.length - k) 0 (⟨by omega, fun q h => by omega⟩) (imp_forget rfl ⟨rfl, rfl, (by first | rfl | exact ci (by omega) | exact ci (by simp) | exact cd (by simp) | simp), trivial⟩ ⟨rfl, trivial⟩) (fun k hok => ?_)
  obtain ⟨hkk, hq⟩ := hok
  refine a_seq ?_
  refine a_rseq ?_
  refine rg_put (d := 4) (v := .d (.fl (.int .i64 (k : Int)))) rfl (og rfl (op_move rfl rfl rfl)) ?_
  refine rg_put (d := 5) (v := .pt 101 4) rfl (og rfl (of_eff (s_field_pt rfl Tryz.underlying24 rfl ti22 rfl rfl rfl) rfl)) ?_
  refine rg_put (d := 6) (v := .d (.sl 3 (List.map eSto x.stops))) rfl (og rfl (op_load_pt rfl Tryz.underlying22 rfl rfl rfl rfl rfl)) ?_
  refine rg_put (d := 7) (v := .d (.fl (.int .i64 (x.stops.length : Int)))) rfl (og rfl (s_len rfl Tryz.underlying22 rfl rfl)) ?_
  refine rg_put (d := 8) (v := .d (.fl (.bool ((decide ((k : Int) < (x.stops.length : Int))))))) rfl (og rfl (op_bin rfl rfl rfl (b_lss _ _ _ _) rfl)) ?_
  refine rg_done rfl ?_
  refine a_cond rfl (fun h1 => ?_) (fun h1 => ?_)
  · skip
    have h2 := t_dec h1
    refine a_skip ?_
    show A _ _ _ _ _ _ _
    refine a_seq ?_
    refine a_block ?_
    refine a_rseq ?_
    refine rg_put (d := 11) (v := .pt 101 4) rfl (og rfl (of_eff (s_field_pt rfl Tryz.underlying24 rfl ti22 rfl rfl rfl) rfl)) ?_
    refine rg_put (d := 12) (v := .d (.sl 3 (List.map eSto x.stops))) rfl (og rfl (op_load_pt rfl Tryz.underlying22 rfl rfl rfl rfl rfl)) ?_
    refine rg_put (d := 13) (v := .d (.fl (.int .i64 (k : Int)))) rfl (og rfl (op_move rfl rfl rfl)) ?_
    refine rg_put (d := 14) (v := .el ((eSto (ix x.stops k)))) rfl (og rfl (s_index rfl Tryz.underlying22 ti29 rfl rfl (by omega) (row_at (by omega)) rfl)) ?_
    refine rg_put (d := 15) (v := .el ((List.drop 2 ((eSto (ix x.stops k)))))) rfl (og rfl (of_eff (s_field_el rfl Tryz.underlying29 rfl ti9 rfl rfl rfl) rfl)) ?_
    refine rg_put (d := 16) (v := .d (.fl (.string ((ix x.stops k).pass)))) rfl (og rfl (op_load_el rfl Tryz.underlying9 rfl rfl rfl rfl)) ?_
    refine rg_put (d := 17) (v := .d (.fl (.bool ((!(sEq ((ix x.stops k).pass) (⟨#[]⟩))))))) rfl (og rfl (op_bin rfl rfl rfl (b_sne _ _ _) rfl)) ?_
    refine rg_done rfl ?_
    refine a_cond rfl (fun h3 => ?_) (fun h3 => ?_)
    · skip
      have h4 := t_not h3
      refine a_rseq ?_
      refine rg_put (d := 18) (v := .pt 101 4) rfl (og rfl (of_eff (s_field_pt rfl Tryz.underlying24 rfl ti22 rfl rfl rfl) rfl)) ?_
      refine rg_put (d := 19) (v := .d (.sl 3 (List.map eSto x.stops))) rfl (og rfl (op_load_pt rfl Tryz.underlying22 rfl rfl rfl rfl rfl)) ?_
      refine rg_put (d := 20) (v := .d (.fl (.int .i64 (k : Int)))) rfl (og rfl (op_move rfl rfl rfl)) ?_
      refine rg_put (d := 21) (v := .el ((eSto (ix x.stops k)))) rfl (og rfl (s_index rfl Tryz.underlying22 ti29 rfl rfl (by omega) (row_at (by omega)) rfl)) ?_
      refine rg_put (d := 22) (v := .el ((List.drop 2 ((eSto (ix x.stops k)))))) rfl (og rfl (of_eff (s_field_el rfl Tryz.underlying29 rfl ti9 rfl rfl rfl) rfl)) ?_
      refine rg_put (d := 23) (v := .d (.fl (.string ((ix x.stops k).pass)))) rfl (og rfl (op_load_el rfl Tryz.underlying9 rfl rfl rfl rfl)) ?_
      refine rg_put (d := 2) (v := .d (.fl (.string ((ix x.stops k).pass)))) rfl (og rfl (op_assign rfl rfl rfl)) ?_
      refine rg_done rfl ?_
      refine a_ret ?_
      show ∃ ds, ResL _ _ _ ds ∧ RV.of ds = _
      refine ⟨[.fl (.string ((ix x.stops k).pass))], (.cons (.tmp rfl (.d _)) .nil), ?_⟩
      rw [tid_at (by omega) hq h4]; rfl
    · skip
      have h5 := f_not h3
      refine a_skip ?_
      show A _ _ _ _ _ _ _
      refine a_region ?_
      refine rg_put (d := 9) (v := .d (.fl (.int .i64 (k : Int)))) rfl (og rfl (op_move rfl rfl rfl)) ?_
      refine rg_put (d := 10) (v := .d (.fl (.int .i64 (((k : Int) + 1))))) rfl (og rfl (op_bin rfl rfl rfl (fun x y w => b_add64 _ _ _ x y w (by omega)) rfl)) ?_
      refine rg_put (d := 3) (v := .d (.fl (.int .i64 (((k : Int) + 1))))) rfl (og rfl (op_assign rfl rfl rfl)) ?_
      refine rg_done rfl ?_
      have hx : (sEq (ix x.stops k).pass ⟨#[]⟩) = true := h5
      show ∃ i, _ ∧ _ ∧ Imp _ _ _ _ _
      refine ⟨k + 1, ⟨by omega, fun q h => (Nat.lt_succ_iff_lt_or_eq.1 h).elim (hq q) (fun e => by rw [e]; exact hx)⟩, by omega, imp_forget rfl ⟨rfl, rfl, (by first | rfl | exact ci (by omega) | exact ci (by simp) | exact cd (by simp) | simp), trivial⟩ ⟨rfl, trivial⟩⟩
  · skip
    have h6 := f_dec h1
    refine a_exit ?_
    show A _ _ _ _ _ _ _
    refine a_rseq ?_
    refine rg_put (d := 24) (v := .pt 101 0) rfl (og rfl (of_eff (s_field_pt rfl Tryz.underlying24 rfl ti9 rfl rfl rfl) rfl)) ?_
    refine rg_put (d := 25) (v := .d (.fl (.string x.id))) rfl (og rfl (op_load_pt rfl Tryz.underlying9 rfl rfl rfl rfl rfl)) ?_
    refine rg_put (d := 2) (v := .d (.fl (.string x.id))) rfl (og rfl (op_assign rfl rfl rfl)) ?_
    refine rg_done rfl ?_
    refine a_ret ?_
    show ∃ ds, ResL _ _ _ ds ∧ RV.of ds = _
    refine ⟨[.fl (.string x.id)], (.cons (.tmp rfl (.d _)) .nil), ?_⟩
    rw [tid_no (fun q h => hq q (by omega))]; rfl
set_option maxHeartbeats 4000000 in
set_option maxRecDepth 100000 in
theorem spnV (x : Tp) (hl : x.stops.length ≤ 100) (ht : 0 < x.stops.length → -9223372036854775808 ≤ (ix x.stops (((x.stops.length : Int) - 1)).toNat).time ∧ (ix x.stops (((x.stops.length : Int) - 1)).toNat).time < 9223372036854775807) : Ctr Tryz.prog 9 [.ag (eTp x)] (.d (.ag (eIv (spn x)))) := by
  refine ctr (n := 24) (rs := #[.cell 2 32]) (L := [(0, .d (.ag (eTp x)))]) Tryz.func9 rfl rfl rfl rfl rfl (fun w0 U0 => ?_)
  refine a_rseq ?_
  refine rg_nam (d := 1) (v := .pt 101 0) (m := 101) (nw := [(101, .bx 24 (eTp x))]) rfl (og rfl (of_eff (op_box 101 rfl rfl rfl rfl) rfl)) rfl ?_
  refine rg_nam (d := 2) (v := .pt 102 0) (m := 102) (nw := [(102, .bx 32 [.fl (.int .i64 0), .fl (.int .i64 0)])]) rfl (og rfl (of_eff (s_alloc 102 rfl ti32 (by kernel_rfl) rfl) rfl)) rfl ?_
  refine rg_done rfl ?_
  refine a_seq ?_
  refine a_rseq ?_
  refine rg_put (d := 3) (v := .pt 101 4) rfl (og rfl (of_eff (s_field_pt rfl Tryz.underlying24 rfl ti22 rfl rfl rfl) rfl)) ?_
  refine rg_put (d := 4) (v := .d (.sl 3 (List.map eSto x.stops))) rfl (og rfl (op_load_pt rfl Tryz.underlying22 rfl rfl rfl rfl rfl)) ?_
  refine rg_put (d := 5) (v := .d (.fl (.int .i64 (x.stops.length : Int)))) rfl (og rfl (s_len rfl Tryz.underlying22 rfl rfl)) ?_
  refine rg_put (d := 6) (v := .d (.fl (.bool (((x.stops.length : Int) == 0))))) rfl (og rfl (op_bin rfl rfl rfl (b_eql _ _ _ _) rfl)) ?_
  refine rg_done rfl ?_
  refine a_cond rfl (fun h1 => ?_) (fun h1 => ?_)
  · skip
    have h2 := t_beq h1
    refine a_rseq ?_
    refine rg_put (d := 7) (v := .d (.ag (eIv (Iv.mk 0 0)))) rfl (og rfl (of_eff (op_build rfl Tryz.underlying32 ti32 rfl (by kernel_rfl) (by kernel_rfl) (pl := #[(0, 1), (1, 1)]) (by kernel_rfl) .nil rfl) rfl)) ?_
    refine rg_sto (nw := [(102, .bx 32 ((eIv (Iv.mk 0 0))))]) rfl (og rfl (of_eff (s_store rfl rfl ti32 rfl rfl rfl rfl rfl rfl) rfl)) ?_
    refine rg_done rfl ?_
    refine a_ret ?_
    show ∃ ds, ResL _ _ _ ds ∧ RV.of ds = _
    refine ⟨[.ag [.fl (.int .i64 ((Iv.mk 0 0).fr)), .fl (.int .i64 ((Iv.mk 0 0).to))]], (.cons (.cellT rfl rfl Tryz.underlying32 rfl ti32 rfl (Cv.ag (xs := [.fl (.int .i64 ((Iv.mk 0 0).fr)), .fl (.int .i64 ((Iv.mk 0 0).to))]) (ys := [.fl (.int .i64 ((Iv.mk 0 0).fr)), .fl (.int .i64 ((Iv.mk 0 0).to))]) ⟨Cv.refl _, Cv.refl _, trivial⟩)) .nil), ?_⟩
    have hu : spn x = ⟨0, 0⟩ := by unfold spn; rw [if_pos (by omega)]
    rw [hu]; rfl
  · skip
    have h3 := f_beq h1
    refine a_skip ?_
    show A _ _ _ _ _ _ _
    refine a_dseq (by kernel_rfl) ?_
    refine dr_put (d := 8) (v := .pt 101 4) rfl (og rfl (of_eff (s_field_pt rfl Tryz.underlying24 rfl ti22 rfl rfl rfl) rfl)) ?_
    refine dr_put (d := 9) (v := .d (.sl 3 (List.map eSto x.stops))) rfl (og rfl (op_load_pt rfl Tryz.underlying22 rfl rfl rfl rfl rfl)) ?_
    refine dr_put (d := 10) (v := .el ((eSto (ix x.stops 0)))) rfl (og rfl (s_index rfl Tryz.underlying22 ti29 rfl rfl (by first | omega | (have := ht (by omega); omega)) (row_at (by first | omega | (have := ht (by omega); omega))) rfl)) ?_
    refine dr_put (d := 11) (v := .el ((List.drop 1 ((eSto (ix x.stops 0)))))) rfl (og rfl (of_eff (s_field_el rfl Tryz.underlying29 rfl ti3 rfl rfl rfl) rfl)) ?_
    refine dr_put (d := 12) (v := .d (.fl (.int .i64 ((ix x.stops 0).time)))) rfl (og rfl (op_load_el rfl Tryz.underlying3 rfl rfl rfl rfl)) ?_
    refine dr_put (d := 13) (v := .pt 101 4) rfl (og rfl (of_eff (s_field_pt rfl Tryz.underlying24 rfl ti22 rfl rfl rfl) rfl)) ?_
    refine dr_put (d := 14) (v := .d (.sl 3 (List.map eSto x.stops))) rfl (og rfl (op_load_pt rfl Tryz.underlying22 rfl rfl rfl rfl rfl)) ?_
    refine dr_put (d := 15) (v := .pt 101 4) rfl (og rfl (of_eff (s_field_pt rfl Tryz.underlying24 rfl ti22 rfl rfl rfl) rfl)) ?_
    refine dr_put (d := 16) (v := .d (.sl 3 (List.map eSto x.stops))) rfl (og rfl (op_load_pt rfl Tryz.underlying22 rfl rfl rfl rfl rfl)) ?_
    refine dr_put (d := 17) (v := .d (.fl (.int .i64 (x.stops.length : Int)))) rfl (og rfl (s_len rfl Tryz.underlying22 rfl rfl)) ?_
    refine dr_put (d := 18) (v := .d (.fl (.int .i64 (((x.stops.length : Int) - 1))))) rfl (og rfl (op_bin rfl rfl rfl (fun x y w => b_sub64 _ _ _ x y w (by first | omega | (have := ht (by omega); omega))) rfl)) ?_
    refine dr_put (d := 19) (v := .el ((eSto ((ix x.stops (((x.stops.length : Int) - 1)).toNat))))) rfl (og rfl (s_index rfl Tryz.underlying22 ti29 rfl rfl (by first | omega | (have := ht (by omega); omega)) (row_atI (by first | omega | (have := ht (by omega); omega)) (by first | omega | (have := ht (by omega); omega))) rfl)) ?_
    refine dr_put (d := 20) (v := .el ((List.drop 1 ((eSto ((ix x.stops (((x.stops.length : Int) - 1)).toNat))))))) rfl (og rfl (of_eff (s_field_el rfl Tryz.underlying29 rfl ti3 rfl rfl rfl) rfl)) ?_
    refine dr_put (d := 21) (v := .d (.fl (.int .i64 (((ix x.stops (((x.stops.length : Int) - 1)).toNat)).time)))) rfl (og rfl (op_load_el rfl Tryz.underlying3 rfl rfl rfl rfl)) ?_
    refine dr_put (d := 22) (v := .d (.fl (.int .i64 ((((ix x.stops (((x.stops.length : Int) - 1)).toNat)).time + 1))))) rfl (og rfl (op_bin rfl rfl rfl (fun x y w => b_add64 _ _ _ x y w (by first | omega | (have := ht (by omega); omega))) rfl)) ?_
    refine dr_put (d := 23) (v := .d (.ag (eIv ((Iv.mk ((ix x.stops 0).time) ((((ix x.stops (((x.stops.length : Int) - 1)).toNat)).time + 1))))))) rfl (og rfl (of_eff (op_build rfl Tryz.underlying32 ti32 rfl (by kernel_rfl) (by kernel_rfl) (pl := #[(0, 1), (1, 1)]) (by kernel_rfl) (.cons rfl rfl (.d _) rfl rfl rfl (.cons rfl rfl (.d _) rfl rfl rfl .nil)) rfl) rfl)) ?_
    refine dr_sto (nw := [(102, .bx 32 ((eIv ((Iv.mk ((ix x.stops 0).time) ((((ix x.stops (((x.stops.length : Int) - 1)).toNat)).time + 1)))))))]) rfl (og rfl (of_eff (s_store rfl rfl ti32 rfl rfl rfl rfl rfl rfl) rfl)) ?_
    refine dr_done rfl (sepB_of [0, 1, 3, 7, 15, 0, 32, 0, 128, 384, 896, 2016, 4064, 8160, 16352, 32767, 65535] (by kernel_rfl)) (by kernel_rfl) ?_
    refine a_ret ?_
    show ∃ ds, ResL _ _ _ ds ∧ RV.of ds = _
    refine ⟨[.ag [.fl (.int .i64 (((Iv.mk ((ix x.stops 0).time) ((((ix x.stops (((x.stops.length : Int) - 1)).toNat)).time + 1)))).fr)), .fl (.int .i64 (((Iv.mk ((ix x.stops 0).time) ((((ix x.stops (((x.stops.length : Int) - 1)).toNat)).time + 1)))).to))]], (.cons (.cellT rfl rfl Tryz.underlying32 rfl ti32 rfl (Cv.ag (xs := [.fl (.int .i64 (((Iv.mk ((ix x.stops 0).time) ((((ix x.stops (((x.stops.length : Int) - 1)).toNat)).time + 1)))).fr)), .fl (.int .i64 (((Iv.mk ((ix x.stops 0).time) ((((ix x.stops (((x.stops.length : Int) - 1)).toNat)).time + 1)))).to))]) (ys := [.fl (.int .i64 (((Iv.mk ((ix x.stops 0).time) ((((ix x.stops (((x.stops.length : Int) - 1)).toNat)).time + 1)))).fr)), .fl (.int .i64 (((Iv.mk ((ix x.stops 0).time) ((((ix x.stops (((x.stops.length : Int) - 1)).toNat)).time + 1)))).to))]) ⟨Cv.refl _, Cv.refl _, trivial⟩)) .nil), ?_⟩
    have hu : spn x = ⟨(ix x.stops 0).time, (ix x.stops (((x.stops.length : Int) - 1)).toNat).time + 1⟩ := by unfold spn; rw [if_neg (by omega)]
    rw [hu]; rfl
set_option maxHeartbeats 4000000 in
set_option maxRecDepth 100000 in
theorem spnR (x : Tp) (hl : x.stops.length ≤ 100) (ht : 0 < x.stops.length → -9223372036854775808 ≤ (ix x.stops (((x.stops.length : Int) - 1)).toNat).time ∧ (ix x.stops (((x.stops.length : Int) - 1)).toNat).time < 9223372036854775807) : Ctr Tryz.prog 10 [.ag (eTp x)] (.d (.ag (eIv (spn x)))) := by
  refine ctr (n := 24) (rs := #[.cell 2 32]) (L := [(0, .d (.ag (eTp x)))]) Tryz.func10 rfl rfl rfl rfl rfl (fun w0 U0 => ?_)
  refine a_rseq ?_
  refine rg_nam (d := 1) (v := .pt 101 0) (m := 101) (nw := [(101, .bx 24 (eTp x))]) rfl (og rfl (of_eff (op_box 101 rfl rfl rfl rfl) rfl)) rfl ?_
  refine rg_nam (d := 2) (v := .pt 102 0) (m := 102) (nw := [(102, .bx 32 [.fl (.int .i64 0), .fl (.int .i64 0)])]) rfl (og rfl (of_eff (s_alloc 102 rfl ti32 (by kernel_rfl) rfl) rfl)) rfl ?_
  refine rg_done rfl ?_
  refine a_seq ?_
  refine a_rseq ?_
  refine rg_put (d := 3) (v := .pt 101 4) rfl (og rfl (of_eff (s_field_pt rfl Tryz.underlying24 rfl ti22 rfl rfl rfl) rfl)) ?_
  refine rg_put (d := 4) (v := .d (.sl 3 (List.map eSto x.stops))) rfl (og rfl (op_load_pt rfl Tryz.underlying22 rfl rfl rfl rfl rfl)) ?_
  refine rg_put (d := 5) (v := .d (.fl (.int .i64 (x.stops.length : Int)))) rfl (og rfl (s_len rfl Tryz.underlying22 rfl rfl)) ?_
  refine rg_put (d := 6) (v := .d (.fl (.bool (((x.stops.length : Int) == 0))))) rfl (og rfl (op_bin rfl rfl rfl (b_eql _ _ _ _) rfl)) ?_
  refine rg_done rfl ?_
  refine a_cond rfl (fun h1 => ?_) (fun h1 => ?_)
  · skip
    have h2 := t_beq h1
    refine a_rseq ?_
    refine rg_put (d := 7) (v := .d (.ag (eIv (Iv.mk 0 0)))) rfl (og rfl (of_eff (op_build rfl Tryz.underlying32 ti32 rfl (by kernel_rfl) (by kernel_rfl) (pl := #[(0, 1), (1, 1)]) (by kernel_rfl) .nil rfl) rfl)) ?_
    refine rg_sto (nw := [(102, .bx 32 ((eIv (Iv.mk 0 0))))]) rfl (og rfl (of_eff (s_store rfl rfl ti32 rfl rfl rfl rfl rfl rfl) rfl)) ?_
    refine rg_done rfl ?_
    refine a_ret ?_
    show ∃ ds, ResL _ _ _ ds ∧ RV.of ds = _
    refine ⟨[.ag [.fl (.int .i64 ((Iv.mk 0 0).fr)), .fl (.int .i64 ((Iv.mk 0 0).to))]], (.cons (.cellT rfl rfl Tryz.underlying32 rfl ti32 rfl (Cv.ag (xs := [.fl (.int .i64 ((Iv.mk 0 0).fr)), .fl (.int .i64 ((Iv.mk 0 0).to))]) (ys := [.fl (.int .i64 ((Iv.mk 0 0).fr)), .fl (.int .i64 ((Iv.mk 0 0).to))]) ⟨Cv.refl _, Cv.refl _, trivial⟩)) .nil), ?_⟩
    have hu : spn x = ⟨0, 0⟩ := by unfold spn; rw [if_pos (by omega)]
    rw [hu]; rfl
  · skip
    have h3 := f_beq h1
    refine a_skip ?_
    show A _ _ _ _ _ _ _
    refine a_dseq (by kernel_rfl) ?_
    refine dr_put (d := 8) (v := .pt 101 4) rfl (og rfl (of_eff (s_field_pt rfl Tryz.underlying24 rfl ti22 rfl rfl rfl) rfl)) ?_
    refine dr_put (d := 9) (v := .d (.sl 3 (List.map eSto x.stops))) rfl (og rfl (op_load_pt rfl Tryz.underlying22 rfl rfl rfl rfl rfl)) ?_
    refine dr_put (d := 10) (v := .el ((eSto (ix x.stops 0)))) rfl (og rfl (s_index rfl Tryz.underlying22 ti29 rfl rfl (by first | omega | (have := ht (by omega); omega)) (row_at (by first | omega | (have := ht (by omega); omega))) rfl)) ?_
    refine dr_put (d := 11) (v := .el ((List.drop 1 ((eSto (ix x.stops 0)))))) rfl (og rfl (of_eff (s_field_el rfl Tryz.underlying29 rfl ti3 rfl rfl rfl) rfl)) ?_
    refine dr_put (d := 12) (v := .d (.fl (.int .i64 ((ix x.stops 0).time)))) rfl (og rfl (op_load_el rfl Tryz.underlying3 rfl rfl rfl rfl)) ?_
    refine dr_put (d := 13) (v := .pt 101 4) rfl (og rfl (of_eff (s_field_pt rfl Tryz.underlying24 rfl ti22 rfl rfl rfl) rfl)) ?_
    refine dr_put (d := 14) (v := .d (.sl 3 (List.map eSto x.stops))) rfl (og rfl (op_load_pt rfl Tryz.underlying22 rfl rfl rfl rfl rfl)) ?_
    refine dr_put (d := 15) (v := .pt 101 4) rfl (og rfl (of_eff (s_field_pt rfl Tryz.underlying24 rfl ti22 rfl rfl rfl) rfl)) ?_
    refine dr_put (d := 16) (v := .d (.sl 3 (List.map eSto x.stops))) rfl (og rfl (op_load_pt rfl Tryz.underlying22 rfl rfl rfl rfl rfl)) ?_
    refine dr_put (d := 17) (v := .d (.fl (.int .i64 (x.stops.length : Int)))) rfl (og rfl (s_len rfl Tryz.underlying22 rfl rfl)) ?_
    refine dr_put (d := 18) (v := .d (.fl (.int .i64 (((x.stops.length : Int) - 1))))) rfl (og rfl (op_bin rfl rfl rfl (fun x y w => b_sub64 _ _ _ x y w (by first | omega | (have := ht (by omega); omega))) rfl)) ?_
    refine dr_put (d := 19) (v := .el ((eSto ((ix x.stops (((x.stops.length : Int) - 1)).toNat))))) rfl (og rfl (s_index rfl Tryz.underlying22 ti29 rfl rfl (by first | omega | (have := ht (by omega); omega)) (row_atI (by first | omega | (have := ht (by omega); omega)) (by first | omega | (have := ht (by omega); omega))) rfl)) ?_
    refine dr_put (d := 20) (v := .el ((List.drop 1 ((eSto ((ix x.stops (((x.stops.length : Int) - 1)).toNat))))))) rfl (og rfl (of_eff (s_field_el rfl Tryz.underlying29 rfl ti3 rfl rfl rfl) rfl)) ?_
    refine dr_put (d := 21) (v := .d (.fl (.int .i64 (((ix x.stops (((x.stops.length : Int) - 1)).toNat)).time)))) rfl (og rfl (op_load_el rfl Tryz.underlying3 rfl rfl rfl rfl)) ?_
    refine dr_put (d := 22) (v := .d (.fl (.int .i64 ((((ix x.stops (((x.stops.length : Int) - 1)).toNat)).time + 1))))) rfl (og rfl (op_bin rfl rfl rfl (fun x y w => b_add64 _ _ _ x y w (by first | omega | (have := ht (by omega); omega))) rfl)) ?_
    refine dr_put (d := 23) (v := .d (.ag (eIv ((Iv.mk ((ix x.stops 0).time) ((((ix x.stops (((x.stops.length : Int) - 1)).toNat)).time + 1))))))) rfl (og rfl (of_eff (op_build rfl Tryz.underlying32 ti32 rfl (by kernel_rfl) (by kernel_rfl) (pl := #[(0, 1), (1, 1)]) (by kernel_rfl) (.cons rfl rfl (.d _) rfl rfl rfl (.cons rfl rfl (.d _) rfl rfl rfl .nil)) rfl) rfl)) ?_
    refine dr_sto (nw := [(102, .bx 32 ((eIv ((Iv.mk ((ix x.stops 0).time) ((((ix x.stops (((x.stops.length : Int) - 1)).toNat)).time + 1)))))))]) rfl (og rfl (of_eff (s_store rfl rfl ti32 rfl rfl rfl rfl rfl rfl) rfl)) ?_
    refine dr_done rfl (sepB_of [0, 1, 3, 7, 15, 0, 32, 0, 128, 384, 896, 2016, 4064, 8160, 16352, 32767, 65535] (by kernel_rfl)) (by kernel_rfl) ?_
    refine a_ret ?_
    show ∃ ds, ResL _ _ _ ds ∧ RV.of ds = _
    refine ⟨[.ag [.fl (.int .i64 (((Iv.mk ((ix x.stops 0).time) ((((ix x.stops (((x.stops.length : Int) - 1)).toNat)).time + 1)))).fr)), .fl (.int .i64 (((Iv.mk ((ix x.stops 0).time) ((((ix x.stops (((x.stops.length : Int) - 1)).toNat)).time + 1)))).to))]], (.cons (.cellT rfl rfl Tryz.underlying32 rfl ti32 rfl (Cv.ag (xs := [.fl (.int .i64 (((Iv.mk ((ix x.stops 0).time) ((((ix x.stops (((x.stops.length : Int) - 1)).toNat)).time + 1)))).fr)), .fl (.int .i64 (((Iv.mk ((ix x.stops 0).time) ((((ix x.stops (((x.stops.length : Int) - 1)).toNat)).time + 1)))).to))]) (ys := [.fl (.int .i64 (((Iv.mk ((ix x.stops 0).time) ((((ix x.stops (((x.stops.length : Int) - 1)).toNat)).time + 1)))).fr)), .fl (.int .i64 (((Iv.mk ((ix x.stops 0).time) ((((ix x.stops (((x.stops.length : Int) - 1)).toNat)).time + 1)))).to))]) ⟨Cv.refl _, Cv.refl _, trivial⟩)) .nil), ?_⟩
    have hu : spn x = ⟨(ix x.stops 0).time, (ix x.stops (((x.stops.length : Int) - 1)).toNat).time + 1⟩ := by unfold spn; rw [if_neg (by omega)]
    rw [hu]; rfl
set_option maxHeartbeats 4000000 in
set_option maxRecDepth 100000 in
theorem law3 (x : Tp) (hx : ∀ s ∈ x.stops, -9223372036854775808 ≤ s.time ∧ s.time ≤ 9223372036854775807) : Ctr Tryz.prog 3 [.ag (eTp x)] (.d (.fl (.bool true))) := by
  refine ctr (n := 74) (rs := #[.tmp 2]) (L := [(0, .d (.ag (eTp x)))]) Tryz.func3 rfl rfl rfl rfl rfl (fun w0 U0 => ?_)
  refine a_rseq ?_
  refine rg_nam (d := 1) (v := .pt 101 0) (m := 101) (nw := [(101, .bx 24 (eTp x))]) rfl (og rfl (of_eff (op_box 101 rfl rfl rfl rfl) rfl)) rfl ?_
  refine rg_put (d := 2) (v := .d (.fl (.bool false))) rfl (og rfl (op_assign rfl rfl rfl)) ?_
  refine rg_done rfl ?_
  refine a_seq ?_
  refine a_rseq ?_
  refine rg_put (d := 6) (v := .pt 101 4) rfl (og rfl (of_eff (s_field_pt rfl Tryz.underlying24 rfl ti22 rfl rfl rfl) rfl)) ?_
  refine rg_put (d := 7) (v := .d (.sl 3 (List.map eSto x.stops))) rfl (og rfl (op_load_pt rfl Tryz.underlying22 rfl rfl rfl rfl rfl)) ?_
  refine rg_put (d := 8) (v := .d (.fl (.int .i64 (x.stops.length : Int)))) rfl (og rfl (s_len rfl Tryz.underlying22 rfl rfl)) ?_
  refine rg_put (d := 9) (v := .d (.fl (.bool ((decide (100 < (x.stops.length : Int))))))) rfl (og rfl (op_bin rfl rfl rfl (b_gtr _ _ _ _) rfl)) ?_
  refine rg_done rfl ?_
  refine a_cond rfl (fun h1 => ?_) (fun h1 => ?_)
  · skip
    have h2 := t_dec h1
    refine a_rseq ?_
    refine rg_put (d := 10) (v := .d (.fl (.bool true))) rfl (og rfl (op_call rfl Tryz.func4 nm4 rfl .nil alive4 rfl)) ?_
    refine rg_put (d := 2) (v := .d (.fl (.bool true))) rfl (og rfl (op_assign rfl rfl rfl)) ?_
    refine rg_done rfl ?_
    refine a_ret ?_
    show ∃ ds, ResL _ _ _ ds ∧ RV.of ds = _
    refine ⟨[.fl (.bool true)], (.cons (.tmp rfl (.d _)) .nil), ?_⟩
    rfl
  · skip
    have h3 := f_dec h1
    refine a_skip ?_
    show A _ _ _ _ _ _ _
    refine a_rseq ?_
    have hpl := pas_len x.stops
    refine rg_put (d := 11) (v := .d (.ag (eTp x))) rfl (og rfl (of_eff (s_load_pts rfl Tryz.underlying24 rfl ti24 rfl rfl rfl rfl) rfl)) ?_
    refine rg_put (d := 12) (v := .d (.sl 1 (List.map rS (pas x.stops)))) rfl (og rfl (op_call rfl Tryz.func5 nm5 rfl (.cons rfl (.d _) .nil) (pasV x (by omega)) rfl)) ?_
    refine rg_put (d := 3) (v := .d (.sl 1 (List.map rS (pas x.stops)))) rfl (og rfl (op_assign rfl rfl rfl)) ?_
    refine rg_done rfl ?_
    refine a_rseq ?_
    refine rg_put (d := 13) (v := .d (.ag (eTp x))) rfl (og rfl (of_eff (s_load_pts rfl Tryz.underlying24 rfl ti24 rfl rfl rfl rfl) rfl)) ?_
    refine rg_put (d := 14) (v := .d (.sl 1 (List.map rS (pas x.stops)))) rfl (og rfl (op_call rfl Tryz.func6 nm6 rfl (.cons rfl (.d _) .nil) (pasR x (by omega)) rfl)) ?_
    refine rg_put (d := 4) (v := .d (.sl 1 (List.map rS (pas x.stops)))) rfl (og rfl (op_assign rfl rfl rfl)) ?_
    refine rg_done rfl ?_
    refine a_seq ?_
    refine a_rseq ?_
    refine rg_put (d := 15) (v := .d (.sl 1 (List.map rS (pas x.stops)))) rfl (og rfl (op_move rfl rfl rfl)) ?_
    refine rg_put (d := 16) (v := .d (.fl (.int .i64 (((pas x.stops).length : Int))))) rfl (og rfl (s_len rfl Tryz.underlying26 rfl rfl)) ?_
    refine rg_put (d := 17) (v := .d (.sl 1 (List.map rS (pas x.stops)))) rfl (og rfl (op_move rfl rfl rfl)) ?_
    refine rg_put (d := 18) (v := .d (.fl (.int .i64 (((pas x.stops).length : Int))))) rfl (og rfl (s_len rfl Tryz.underlying26 rfl rfl)) ?_
    refine rg_put (d := 19) (v := .d (.fl (.bool ((((pas x.stops).length : Int) != ((pas x.stops).length : Int)))))) rfl (og rfl (op_bin rfl rfl rfl (b_neq _ _ _ _) rfl)) ?_
    refine rg_done rfl ?_
    refine a_condF rfl (ne_self_b _) ?_
    refine a_skip ?_
    show A _ _ _ _ _ _ _
    refine a_seq ?_
    refine a_rseq ?_
    refine rg_put (d := 5) (v := .d (.fl (.int .i64 0))) rfl (og rfl (op_assign rfl rfl rfl)) ?_
    refine rg_done rfl ?_
    refine a_block ?_
    refine a_loop (ι := Nat) (fun k => SS [(0, .d (.ag (eTp x))), (1, .pt 101 0), (3, .d (.sl 1 (List.map rS (pas x.stops)))), (4, .d (.sl 1 (List.map rS (pas x.stops)))), (9, .d (.fl (.bool ((decide (100 < (x.stops.length : Int))))))), (19, .d (.fl (.bool ((((pas x.stops).length : Int) != ((pas x.stops).length : Int)))))), (5, .d (.fl (.int .i64 (k : Int))))] [(101, .bx 24 (eTp x))]) (fun k => k ≤ (pas x.stops).length) (fun k => (pas x.stops).length - k) 0 (by omega) (imp_forget rfl ⟨rfl, rfl, rfl, rfl, rfl, rfl, (by first | rfl | exact ci (by omega) | exact ci (by simp) | exact cd (by simp) | simp), trivial⟩ ⟨rfl, trivial⟩) (fun k hok => ?_)
    have hk := hok
    refine a_seq ?_
    refine a_rseq ?_
    refine rg_put (d := 20) (v := .d (.fl (.int .i64 (k : Int)))) rfl (og rfl (op_move rfl rfl rfl)) ?_
    refine rg_put (d := 21) (v := .d (.sl 1 (List.map rS (pas x.stops)))) rfl (og rfl (op_move rfl rfl rfl)) ?_
    refine rg_put (d := 22) (v := .d (.fl (.int .i64 (((pas x.stops).length : Int))))) rfl (og rfl (s_len rfl Tryz.underlying26 rfl rfl)) ?_
    refine rg_put (d := 23) (v := .d (.fl (.bool ((decide ((k : Int) < ((pas x.stops).length : Int))))))) rfl (og rfl (op_bin rfl rfl rfl (b_lss _ _ _ _) rfl)) ?_
    refine rg_done rfl ?_
    refine a_cond rfl (fun h4 => ?_) (fun h4 => ?_)
    · skip
      have h5 := t_dec h4
      refine a_skip ?_
      show A _ _ _ _ _ _ _
      refine a_seq ?_
      refine a_block ?_
      refine a_dseq (by kernel_rfl) ?_
      refine dr_put (d := 26) (v := .d (.sl 1 (List.map rS (pas x.stops)))) rfl (og rfl (op_move rfl rfl rfl)) ?_
      refine dr_put (d := 27) (v := .d (.fl (.int .i64 (k : Int)))) rfl (og rfl (op_move rfl rfl rfl)) ?_
      refine dr_put (d := 28) (v := .el ((rS ((ix (pas x.stops) k))))) rfl (og rfl (s_index rfl Tryz.underlying26 ti9 rfl rfl (by omega) (row_at (by omega)) rfl)) ?_
      refine dr_put (d := 29) (v := .d (.fl (.string ((ix (pas x.stops) k))))) rfl (og rfl (op_load_el rfl Tryz.underlying9 rfl rfl rfl rfl)) ?_
      refine dr_put (d := 30) (v := .d (.sl 1 (List.map rS (pas x.stops)))) rfl (og rfl (op_move rfl rfl rfl)) ?_
      refine dr_put (d := 31) (v := .d (.fl (.int .i64 (k : Int)))) rfl (og rfl (op_move rfl rfl rfl)) ?_
      refine dr_put (d := 32) (v := .el ((rS ((ix (pas x.stops) k))))) rfl (og rfl (s_index rfl Tryz.underlying26 ti9 rfl rfl (by omega) (row_at (by omega)) rfl)) ?_
      refine dr_put (d := 33) (v := .d (.fl (.string ((ix (pas x.stops) k))))) rfl (og rfl (op_load_el rfl Tryz.underlying9 rfl rfl rfl rfl)) ?_
      refine dr_put (d := 34) (v := .d (.fl (.bool ((!(sEq ((ix (pas x.stops) k)) ((ix (pas x.stops) k)))))))) rfl (og rfl (op_bin rfl rfl rfl (b_sne _ _ _) rfl)) ?_
      refine dr_done rfl (by kernel_rfl) (by kernel_rfl) ?_
      refine a_condF rfl (not_f (eq_self_s _)) ?_
      refine a_skip ?_
      show A _ _ _ _ _ _ _
      refine a_region ?_
      refine rg_put (d := 24) (v := .d (.fl (.int .i64 (k : Int)))) rfl (og rfl (op_move rfl rfl rfl)) ?_
      refine rg_put (d := 25) (v := .d (.fl (.int .i64 (((k : Int) + 1))))) rfl (og rfl (op_bin rfl rfl rfl (fun x y w => b_add64 _ _ _ x y w (by omega)) rfl)) ?_
      refine rg_put (d := 5) (v := .d (.fl (.int .i64 (((k : Int) + 1))))) rfl (og rfl (op_assign rfl rfl rfl)) ?_
      refine rg_done rfl ?_
      show ∃ i, _ ∧ _ ∧ Imp _ _ _ _ _
      refine ⟨k + 1, (by omega), by omega, imp_forget rfl ⟨rfl, rfl, rfl, rfl, rfl, rfl, (by first | rfl | exact ci (by omega) | exact ci (by simp) | exact cd (by simp) | simp), trivial⟩ ⟨rfl, trivial⟩⟩
    · skip
      have h6 := f_dec h4
      refine a_exit ?_
      show A _ _ _ _ _ _ _
      refine a_seq ?_
      refine a_rseq ?_
      refine rg_put (d := 35) (v := .pt 101 4) rfl (og rfl (of_eff (s_field_pt rfl Tryz.underlying24 rfl ti22 rfl rfl rfl) rfl)) ?_
      refine rg_put (d := 36) (v := .d (.sl 3 (List.map eSto x.stops))) rfl (og rfl (op_load_pt rfl Tryz.underlying22 rfl rfl rfl rfl rfl)) ?_
      refine rg_put (d := 37) (v := .d (.fl (.int .i64 (x.stops.length : Int)))) rfl (og rfl (s_len rfl Tryz.underlying22 rfl rfl)) ?_
      refine rg_put (d := 38) (v := .d (.fl (.bool ((decide (0 < (x.stops.length : Int))))))) rfl (og rfl (op_bin rfl rfl rfl (b_gtr _ _ _ _) rfl)) ?_
      refine rg_put (d := 39) (v := .d (.fl (.bool ((decide (0 < (x.stops.length : Int))))))) rfl (og rfl (op_move rfl rfl rfl)) ?_
      rcases fot ((decide (0 < (x.stops.length : Int)))) with h7 | h7
      · skip
        have h8 := f_dec h7
        refine rg_put (d := 40) (v := .d (.fl undef)) rfl (on rfl rfl rfl h7) ?_
        refine rg_put (d := 41) (v := .d (.fl undef)) rfl (on rfl rfl rfl h7) ?_
        refine rg_put (d := 42) (v := .d (.fl undef)) rfl (on rfl rfl rfl h7) ?_
        refine rg_put (d := 43) (v := .d (.fl undef)) rfl (on rfl rfl rfl h7) ?_
        refine rg_put (d := 44) (v := .d (.fl undef)) rfl (on rfl rfl rfl h7) ?_
        refine rg_put (d := 45) (v := .d (.fl undef)) rfl (on rfl rfl rfl h7) ?_
        refine rg_put (d := 46) (v := .d (.fl undef)) rfl (on rfl rfl rfl h7) ?_
        refine rg_put (d := 47) (v := .d (.fl undef)) rfl (on rfl rfl rfl h7) ?_
        refine rg_put (d := 48) (v := .d (.fl undef)) rfl (on rfl rfl rfl h7) ?_
        refine rg_put (d := 49) (v := .d (.fl undef)) rfl (on rfl rfl rfl h7) ?_
        refine rg_put (d := 50) (v := .d (.fl (.bool false))) rfl (og rfl (op_pick rfl rfl (by rw [h7]; rfl) rfl)) ?_
        refine rg_done rfl ?_
        refine a_condF rfl rfl ?_
        refine a_skip ?_
        show A _ _ _ _ _ _ _
        refine a_dseq (by kernel_rfl) ?_
        have ht : 0 < x.stops.length → -9223372036854775808 ≤ (ix x.stops (((x.stops.length : Int) - 1)).toNat).time ∧ (ix x.stops (((x.stops.length : Int) - 1)).toNat).time < 9223372036854775807 := fun h => by omega
        refine dr_put (d := 59) (v := .d (.ag (eTp x))) rfl (og rfl (of_eff (s_load_pts rfl Tryz.underlying24 rfl ti24 rfl rfl rfl rfl) rfl)) ?_
        refine dr_put (d := 60) (v := .d (.fl (.string (tid x)))) rfl (og rfl (op_call rfl Tryz.func7 nm7 rfl (.cons rfl (.d _) .nil) (tidV x (by omega)) rfl)) ?_
        refine dr_put (d := 61) (v := .d (.ag (eTp x))) rfl (og rfl (of_eff (s_load_pts rfl Tryz.underlying24 rfl ti24 rfl rfl rfl rfl) rfl)) ?_
        refine dr_put (d := 62) (v := .d (.fl (.string (tid x)))) rfl (og rfl (op_call rfl Tryz.func8 nm8 rfl (.cons rfl (.d _) .nil) (tidR x (by omega)) rfl)) ?_
        refine dr_put (d := 63) (v := .d (.fl (.bool ((sEq (tid x) (tid x)))))) rfl (og rfl (op_bin rfl rfl rfl (b_seq _ _ _) rfl)) ?_
        refine dr_put (d := 64) (v := .d (.fl (.bool ((sEq (tid x) (tid x)))))) rfl (og rfl (op_move rfl rfl rfl)) ?_
        refine dr_put (d := 65) (v := .d (.ag (eTp x))) rfl (oy rfl rfl rfl (eq_self_s _) (of_eff (s_load_pts rfl Tryz.underlying24 rfl ti24 rfl rfl rfl rfl) rfl)) ?_
        refine dr_put (d := 66) (v := .d (.ag (eIv (spn x)))) rfl (oy rfl rfl rfl (eq_self_s _) (op_call rfl Tryz.func9 nm9 rfl (.cons rfl (.d _) .nil) (spnV x (by omega) ht) rfl)) ?_
        refine dr_put (d := 67) (v := .d (.ag (eTp x))) rfl (oy rfl rfl rfl (eq_self_s _) (of_eff (s_load_pts rfl Tryz.underlying24 rfl ti24 rfl rfl rfl rfl) rfl)) ?_
        refine dr_put (d := 68) (v := .d (.ag (eIv (spn x)))) rfl (oy rfl rfl rfl (eq_self_s _) (op_call rfl Tryz.func10 nm10 rfl (.cons rfl (.d _) .nil) (spnR x (by omega) ht) rfl)) ?_
        refine dr_put (d := 69) (v := .d (.fl (.bool true))) rfl (oy rfl rfl rfl (eq_self_s _) (op_eqS [.int .i64 ((spn x).fr), .int .i64 ((spn x).to)] [.int .i64 ((spn x).fr), .int .i64 ((spn x).to)] rfl rfl rfl (b := true) (fun ww => eql32 (spn x) _ _ ww) rfl)) ?_
        refine dr_put (d := 70) (v := .d (.fl (.bool true))) rfl (og rfl (op_pick rfl rfl (by rw [(eq_self_s _)]; rfl) rfl)) ?_
        refine dr_put (d := 71) (v := .d (.fl (.bool true))) rfl (og rfl (op_move rfl rfl rfl)) ?_
        refine dr_put (d := 72) (v := .d (.fl (.bool true))) rfl (oy rfl rfl rfl rfl (op_call rfl Tryz.func4 nm4 rfl .nil alive4 rfl)) ?_
        refine dr_put (d := 73) (v := .d (.fl (.bool true))) rfl (og rfl (op_pick rfl rfl rfl rfl)) ?_
        refine dr_put (d := 2) (v := .d (.fl (.bool true))) rfl (og rfl (op_assign rfl rfl rfl)) ?_
        refine dr_done rfl (sepB_of [0, 1, 0, 7, 15, 31, 63, 127, 63, 511, 1023, 2047, 4095, 8191, 16383, 32767] (by kernel_rfl)) (by kernel_rfl) ?_
        refine a_ret ?_
        show ∃ ds, ResL _ _ _ ds ∧ RV.of ds = _
        refine ⟨[.fl (.bool true)], (.cons (.tmp rfl (.d _)) .nil), ?_⟩
        rfl
      · skip
        have h9 := t_dec h7
        refine rg_put (d := 40) (v := .pt 101 4) rfl (oy rfl rfl rfl h7 (of_eff (s_field_pt rfl Tryz.underlying24 rfl ti22 rfl rfl rfl) rfl)) ?_
        refine rg_put (d := 41) (v := .d (.sl 3 (List.map eSto x.stops))) rfl (oy rfl rfl rfl h7 (op_load_pt rfl Tryz.underlying22 rfl rfl rfl rfl rfl)) ?_
        refine rg_put (d := 42) (v := .pt 101 4) rfl (oy rfl rfl rfl h7 (of_eff (s_field_pt rfl Tryz.underlying24 rfl ti22 rfl rfl rfl) rfl)) ?_
        refine rg_put (d := 43) (v := .d (.sl 3 (List.map eSto x.stops))) rfl (oy rfl rfl rfl h7 (op_load_pt rfl Tryz.underlying22 rfl rfl rfl rfl rfl)) ?_
        refine rg_put (d := 44) (v := .d (.fl (.int .i64 (x.stops.length : Int)))) rfl (oy rfl rfl rfl h7 (s_len rfl Tryz.underlying22 rfl rfl)) ?_
        refine rg_put (d := 45) (v := .d (.fl (.int .i64 (((x.stops.length : Int) - 1))))) rfl (oy rfl rfl rfl h7 (op_bin rfl rfl rfl (fun x y w => b_sub64 _ _ _ x y w (by omega)) rfl)) ?_
        refine rg_put (d := 46) (v := .el ((eSto ((ix x.stops (((x.stops.length : Int) - 1)).toNat))))) rfl (oy rfl rfl rfl h7 (s_index rfl Tryz.underlying22 ti29 rfl rfl (by omega) (row_atI (by omega) (by omega)) rfl)) ?_
        refine rg_put (d := 47) (v := .el ((List.drop 1 ((eSto ((ix x.stops (((x.stops.length : Int) - 1)).toNat))))))) rfl (oy rfl rfl rfl h7 (of_eff (s_field_el rfl Tryz.underlying29 rfl ti3 rfl rfl rfl) rfl)) ?_
        refine rg_put (d := 48) (v := .d (.fl (.int .i64 (((ix x.stops (((x.stops.length : Int) - 1)).toNat)).time)))) rfl (oy rfl rfl rfl h7 (op_load_el rfl Tryz.underlying3 rfl rfl rfl rfl)) ?_
        refine rg_put (d := 49) (v := .d (.fl (.bool ((((ix x.stops (((x.stops.length : Int) - 1)).toNat)).time == 9223372036854775807))))) rfl (oy rfl rfl rfl h7 (op_bin rfl rfl rfl (b_eql _ _ _ _) rfl)) ?_
        refine rg_put (d := 50) (v := .d (.fl (.bool ((((ix x.stops (((x.stops.length : Int) - 1)).toNat)).time == 9223372036854775807))))) rfl (og rfl (op_pick rfl rfl (by rw [h7]; rfl) rfl)) ?_
        refine rg_done rfl ?_
        refine a_cond rfl (fun h10 => ?_) (fun h10 => ?_)
        · skip
          have h11 := t_beq h10
          refine a_dseq (by kernel_rfl) ?_
          refine dr_put (d := 51) (v := .d (.ag (eTp x))) rfl (og rfl (of_eff (s_load_pts rfl Tryz.underlying24 rfl ti24 rfl rfl rfl rfl) rfl)) ?_
          refine dr_put (d := 52) (v := .d (.fl (.string (tid x)))) rfl (og rfl (op_call rfl Tryz.func7 nm7 rfl (.cons rfl (.d _) .nil) (tidV x (by omega)) rfl)) ?_
          refine dr_put (d := 53) (v := .d (.ag (eTp x))) rfl (og rfl (of_eff (s_load_pts rfl Tryz.underlying24 rfl ti24 rfl rfl rfl rfl) rfl)) ?_
          refine dr_put (d := 54) (v := .d (.fl (.string (tid x)))) rfl (og rfl (op_call rfl Tryz.func8 nm8 rfl (.cons rfl (.d _) .nil) (tidR x (by omega)) rfl)) ?_
          refine dr_put (d := 55) (v := .d (.fl (.bool ((sEq (tid x) (tid x)))))) rfl (og rfl (op_bin rfl rfl rfl (b_seq _ _ _) rfl)) ?_
          refine dr_put (d := 56) (v := .d (.fl (.bool ((sEq (tid x) (tid x)))))) rfl (og rfl (op_move rfl rfl rfl)) ?_
          refine dr_put (d := 57) (v := .d (.fl (.bool true))) rfl (oy rfl rfl rfl (eq_self_s _) (op_call rfl Tryz.func4 nm4 rfl .nil alive4 rfl)) ?_
          refine dr_put (d := 58) (v := .d (.fl (.bool true))) rfl (og rfl (op_pick rfl rfl (by rw [(eq_self_s _)]; rfl) rfl)) ?_
          refine dr_put (d := 2) (v := .d (.fl (.bool true))) rfl (og rfl (op_assign rfl rfl rfl)) ?_
          refine dr_done rfl (by kernel_rfl) (by kernel_rfl) ?_
          refine a_ret ?_
          show ∃ ds, ResL _ _ _ ds ∧ RV.of ds = _
          refine ⟨[.fl (.bool true)], (.cons (.tmp rfl (.d _)) .nil), ?_⟩
          rfl
        · skip
          have h12 := f_beq h10
          refine a_skip ?_
          show A _ _ _ _ _ _ _
          refine a_dseq (by kernel_rfl) ?_
          have ht : 0 < x.stops.length → -9223372036854775808 ≤ (ix x.stops (((x.stops.length : Int) - 1)).toNat).time ∧ (ix x.stops (((x.stops.length : Int) - 1)).toNat).time < 9223372036854775807 := fun h => by have h1 := hx _ (ix_mem (l := x.stops) (k := (((x.stops.length : Int) - 1)).toNat) (by omega)); have h2 := f_beq h10; omega
          refine dr_put (d := 59) (v := .d (.ag (eTp x))) rfl (og rfl (of_eff (s_load_pts rfl Tryz.underlying24 rfl ti24 rfl rfl rfl rfl) rfl)) ?_
          refine dr_put (d := 60) (v := .d (.fl (.string (tid x)))) rfl (og rfl (op_call rfl Tryz.func7 nm7 rfl (.cons rfl (.d _) .nil) (tidV x (by omega)) rfl)) ?_
          refine dr_put (d := 61) (v := .d (.ag (eTp x))) rfl (og rfl (of_eff (s_load_pts rfl Tryz.underlying24 rfl ti24 rfl rfl rfl rfl) rfl)) ?_
          refine dr_put (d := 62) (v := .d (.fl (.string (tid x)))) rfl (og rfl (op_call rfl Tryz.func8 nm8 rfl (.cons rfl (.d _) .nil) (tidR x (by omega)) rfl)) ?_
          refine dr_put (d := 63) (v := .d (.fl (.bool ((sEq (tid x) (tid x)))))) rfl (og rfl (op_bin rfl rfl rfl (b_seq _ _ _) rfl)) ?_
          refine dr_put (d := 64) (v := .d (.fl (.bool ((sEq (tid x) (tid x)))))) rfl (og rfl (op_move rfl rfl rfl)) ?_
          refine dr_put (d := 65) (v := .d (.ag (eTp x))) rfl (oy rfl rfl rfl (eq_self_s _) (of_eff (s_load_pts rfl Tryz.underlying24 rfl ti24 rfl rfl rfl rfl) rfl)) ?_
          refine dr_put (d := 66) (v := .d (.ag (eIv (spn x)))) rfl (oy rfl rfl rfl (eq_self_s _) (op_call rfl Tryz.func9 nm9 rfl (.cons rfl (.d _) .nil) (spnV x (by omega) ht) rfl)) ?_
          refine dr_put (d := 67) (v := .d (.ag (eTp x))) rfl (oy rfl rfl rfl (eq_self_s _) (of_eff (s_load_pts rfl Tryz.underlying24 rfl ti24 rfl rfl rfl rfl) rfl)) ?_
          refine dr_put (d := 68) (v := .d (.ag (eIv (spn x)))) rfl (oy rfl rfl rfl (eq_self_s _) (op_call rfl Tryz.func10 nm10 rfl (.cons rfl (.d _) .nil) (spnR x (by omega) ht) rfl)) ?_
          refine dr_put (d := 69) (v := .d (.fl (.bool true))) rfl (oy rfl rfl rfl (eq_self_s _) (op_eqS [.int .i64 ((spn x).fr), .int .i64 ((spn x).to)] [.int .i64 ((spn x).fr), .int .i64 ((spn x).to)] rfl rfl rfl (b := true) (fun ww => eql32 (spn x) _ _ ww) rfl)) ?_
          refine dr_put (d := 70) (v := .d (.fl (.bool true))) rfl (og rfl (op_pick rfl rfl (by rw [(eq_self_s _)]; rfl) rfl)) ?_
          refine dr_put (d := 71) (v := .d (.fl (.bool true))) rfl (og rfl (op_move rfl rfl rfl)) ?_
          refine dr_put (d := 72) (v := .d (.fl (.bool true))) rfl (oy rfl rfl rfl rfl (op_call rfl Tryz.func4 nm4 rfl .nil alive4 rfl)) ?_
          refine dr_put (d := 73) (v := .d (.fl (.bool true))) rfl (og rfl (op_pick rfl rfl rfl rfl)) ?_
          refine dr_put (d := 2) (v := .d (.fl (.bool true))) rfl (og rfl (op_assign rfl rfl rfl)) ?_
          refine dr_done rfl (sepB_of [0, 1, 0, 7, 15, 31, 63, 127, 63, 511, 1023, 2047, 4095, 8191, 16383, 32767] (by kernel_rfl)) (by kernel_rfl) ?_
          refine a_ret ?_
          show ∃ ds, ResL _ _ _ ds ∧ RV.of ds = _
          refine ⟨[.fl (.bool true)], (.cons (.tmp rfl (.d _)) .nil), ?_⟩
          rfl
end Go.Proofs.YtknikpnleeamkaaGreat.Wk
