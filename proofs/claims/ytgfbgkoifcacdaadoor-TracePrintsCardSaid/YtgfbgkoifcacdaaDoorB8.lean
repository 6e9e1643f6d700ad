/- Explanations as text. Conditions: at most 1000 facts with strings of at most 300 bytes. -/
import Derived.Test.YtgfbgkoifcacdaaDoorB7
set_option linter.unusedSimpArgs false
set_option linter.unusedVariables false
namespace Go.Proofs.YtgfbgkoifcacdaaDoor.Wk
open Go Go.RowKit Go.Proofs.YtgfbgkoifcacdaaDoor.Av
theorem ti135 : TI Tryd.prog 135 (.agg #[.pointer none, .slice none 0 0]) 2 32 := ti_of (by kernel_rfl)
/-- the address in a builder: none before the first writing -/
def ca (v : Value) : Nat → Value
  | 0 => .pointer none
  | _ + 1 => v
theorem ca_or (v : Value) (k : Nat) : ca v k = v ∨ ca v k = .pointer none := by cases k <;> simp [ca]
theorem ws_any (u s : ByteArray) (v : Value) (k : Nat) (hs : u.size + s.size ≤ 100000000) : CtrX Tryd.prog 45 [.q 0 v, .d (.fl (.string s))] [.bt 135 [.dv (.fl (ca v k)), .ow 5 1 (List.map (rI .u8) (bys u))]] [.bt 135 [.dv (.fl v), .ow 5 1 (List.map (rI .u8) (bys (u ++ s)))]] (.tu [.fl (.int .i64 s.size), .fl .nilIface]) := by
  cases k with
  | zero => exact ws_fresh u s v hs
  | succ k => exact ws_used u s v hs

set_option maxHeartbeats 4000000 in
set_option maxRecDepth 100000 in
theorem pr16 (l : List Fc) (h : okF l) : CtrK Tryd.prog KK 16 [.sl 3 (List.map eFc l)] (.d (.fl (.string (prS l l.length)))) := by
  refine ctrK (n := 34) (rs := #[.tmp 2]) (L := [(0, .d (.sl 3 (List.map eFc l)))]) Tryd.func16 rfl rfl rfl rfl rfl (fun w0 U0 hG => ?_)
  refine a_rseq ?_
  refine rg_put (d := 2) (v := .d (.fl (.string (⟨#[]⟩)))) rfl (og rfl (op_assign rfl rfl rfl)) ?_
  refine rg_done rfl ?_
  refine a_rseq ?_
  refine rg_nam (d := 3) (v := .pt 101 0) (m := 101) (nw := [(101, .bx 135 [.fl (.pointer none), .fl (.slice none 0 0)])]) rfl (og rfl (of_eff (s_alloc 101 rfl ti135 (by kernel_rfl) rfl) rfl)) rfl ?_
  refine rg_done rfl ?_
  refine a_seq ?_
  refine a_rseq ?_
  refine rg_imp (imp_bt 101 rfl) ?_
  refine rg_imp (imp_btnil 101 1 5 1 rfl rfl) ?_
  refine rg_name 3 101 rfl (fun v hv => ?_)
  refine rg_put (d := 7) (v := .d (.sl 3 (List.map eFc l))) rfl (og rfl (op_move rfl rfl rfl)) ?_
  refine rg_put (d := 8) (v := .d (.fl (.int .i64 (l.length : Int)))) rfl (og rfl (s_len rfl Tryd.underlying69 rfl rfl)) ?_
  refine rg_put (d := 9) (v := .d (.fl (.int .i64 0))) rfl (og rfl (op_move rfl rfl rfl)) ?_
  refine rg_done rfl ?_
  refine a_block ?_
  refine a_loop (ι := Nat) (fun k => SS [(0, .d (.sl 3 (List.map eFc l))), (2, .d (.fl (.string (⟨#[]⟩)))), (3, .pv 101 v), (7, .d (.sl 3 (List.map eFc l))), (8, .d (.fl (.int .i64 (l.length : Int)))), (9, .d (.fl (.int .i64 (k : Int))))] [(101, .bt 135 [.dv (.fl (ca v k)), .ow 5 1 (List.map (rI .u8) ((bys (prS l k))))])]) (fun k => k ≤ l.length) (fun k => l.length - k) 0 (by omega) (imp_forget rfl ⟨rfl, rfl, rfl, rfl, rfl, (by first | rfl | exact ci (by omega) | exact ci (by simp) | exact cd (by simp) | simp), trivial⟩ ⟨rfl, trivial⟩) (fun k hok => ?_)
  have hk := hok
  have hps := prS_size h k hk
  have hl1 := h.1
  refine a_rseq ?_
  refine rg_put (d := 10) (v := .d (.fl (.bool ((decide ((k : Int) < (l.length : Int))))))) rfl (og rfl (op_bin rfl rfl rfl (b_lss _ _ _ _) rfl)) ?_
  refine rg_done rfl ?_
  refine a_seq ?_
  refine a_cond rfl (fun h1 => ?_) (fun h1 => ?_)
  · skip
    have h2 := t_dec h1
    refine a_skip ?_
    show A _ _ _ _ _ _ _
    refine a_seq ?_
    refine a_block ?_
    refine a_rseq ?_
    have hk2 := h.2 k (by omega)
    have hes := es_size hk2.2
    have hwy := why_size (ix l k).why
    have hjs := jn_size hk2.1 hk2.2
    have s32 : (⟨#[32]⟩ : ByteArray).size = 1 := rfl
    have s10 : (⟨#[10]⟩ : ByteArray).size = 1 := rfl
    refine rg_put (d := 11) (v := .el ((eFc (ix l k)))) rfl (og rfl (s_index rfl Tryd.underlying69 ti81 rfl rfl (by omega) (row_at (by omega)) rfl)) ?_
    refine rg_put (d := 12) (v := .d (.ag (eFc (ix l k)))) rfl (og rfl (of_eff (s_load_els rfl Tryd.underlying81 rfl ti81 rfl rfl rfl) rfl)) ?_
    refine rg_nam (d := 5) (v := .pt 102 0) (m := 102) (nw := [(102, .bx 81 ([.fl (.string (⟨#[]⟩)), .fl (.string (⟨#[]⟩)), .fl (.int .i64 0)]))]) rfl (og rfl (of_eff (s_alloc 102 rfl ti81 (by kernel_rfl) rfl) rfl)) rfl ?_
    refine rg_sto (nw := [(102, .bx 81 ((eFc (ix l k))))]) rfl (og rfl (of_eff (s_store rfl rfl ti81 rfl rfl rfl rfl rfl rfl) rfl)) ?_
    refine rg_done rfl ?_
    refine a_dseq (by kernel_rfl) ?_
    refine dr_put (d := 13) (v := .pt 102 0) rfl (og rfl (of_eff (s_field_pt rfl Tryd.underlying81 rfl ti9 rfl rfl rfl) rfl)) ?_
    refine dr_put (d := 14) (v := .d (.fl (.string ((ix l k).kind)))) rfl (og rfl (op_load_pt rfl Tryd.underlying9 rfl rfl rfl rfl rfl)) ?_
    refine dr_put (d := 15) (v := .pt 102 1) rfl (og rfl (of_eff (s_field_pt rfl Tryd.underlying81 rfl ti9 rfl rfl rfl) rfl)) ?_
    refine dr_put (d := 16) (v := .d (.fl (.string ((ix l k).key)))) rfl (og rfl (op_load_pt rfl Tryd.underlying9 rfl rfl rfl rfl rfl)) ?_
    refine dr_put (d := 17) (v := .d (.fl (.string ((es ((ix l k).key)))))) rfl (og rfl (op_call rfl Tryd.func44 nm44 rfl (.cons rfl (.d _) .nil) (es44 ((ix l k).key) (by have := hk2.2; omega)) rfl)) ?_
    refine dr_nam (d := 18) (v := .ow 103) (m := 103) (nw := [(103, .tr 9 1 (tD rS [(ix l k).kind, (es ((ix l k).key))]))]) rfl (og rfl (of_eff (of_eff (op_sliceB 103 rfl Tryd.underlying137 ti9 rfl rfl rfl (by kernel_rfl) (xs := [.fl (.string ((ix l k).kind)), .fl (.string ((es ((ix l k).key))))]) rfl rfl (.cons rfl rfl (.d _) rfl rfl rfl (.cons rfl rfl (.d _) rfl rfl rfl .nil)) rfl) rfl) rfl)) ?_
    refine dr_put (d := 6) (v := .ow 103) rfl (og rfl (op_assign rfl rfl rfl)) ?_
    refine dr_done rfl (by kernel_rfl) (by kernel_rfl) ?_
    refine a_seq ?_
    refine a_rseq ?_
    refine rg_put (d := 19) (v := .pt 102 2) rfl (og rfl (of_eff (s_field_pt rfl Tryd.underlying81 rfl ti3 rfl rfl rfl) rfl)) ?_
    refine rg_put (d := 20) (v := .d (.fl (.int .i64 ((ix l k).why)))) rfl (og rfl (op_load_pt rfl Tryd.underlying3 rfl rfl rfl rfl rfl)) ?_
    refine rg_put (d := 21) (v := .d (.fl (.bool (((ix l k).why != 0))))) rfl (og rfl (op_bin rfl rfl rfl (b_neq _ _ _ _) rfl)) ?_
    refine rg_done rfl ?_
    refine a_cond rfl (fun h3 => ?_) (fun h3 => ?_)
    · skip
      have h4 := t_bne h3
      refine a_region ?_
      refine rg_put (d := 22) (v := .ow 103) rfl (og rfl (op_move rfl rfl rfl)) ?_
      refine rg_put (d := 23) (v := .pt 102 2) rfl (og rfl (of_eff (s_field_pt rfl Tryd.underlying81 rfl ti3 rfl rfl rfl) rfl)) ?_
      refine rg_put (d := 24) (v := .d (.fl (.int .i64 ((ix l k).why)))) rfl (og rfl (op_load_pt rfl Tryd.underlying3 rfl rfl rfl rfl rfl)) ?_
      refine rg_put (d := 25) (v := .d (.fl (.string ((why ((ix l k).why)))))) rfl (og rfl (op_callK kkst hG rfl Tryd.func18 nm18 rfl (.cons rfl (.d _) .nil) (why18 ((ix l k).why)) rfl)) ?_
      refine rg_put (d := 26) (v := .d (.sl 1 (List.map rS [(why ((ix l k).why))]))) rfl (og rfl (of_eff (op_slices rfl Tryd.underlying137 ti9 rfl rfl rfl (by kernel_rfl) (xs := [.fl (.string ((why ((ix l k).why))))]) rfl rfl (.cons rfl rfl (.d _) rfl rfl rfl .nil) rfl) rfl)) ?_
      refine rg_nam (d := 27) (v := .ow 104) (m := 104) (nw := [(104, .tr 9 1 (tD rS (([(ix l k).kind, (es ((ix l k).key))] ++ [(why ((ix l k).why))])))), (103, .no)]) rfl (og rfl (of_eff (s_append_td 104 rfl Tryd.underlying137 ti9 rfl rfl rfl rfl rfl (.d _) (by simp only [List.length_append, List.length_cons, List.length_nil]; omega) rfl) rfl)) rfl ?_
      refine rg_put (d := 6) (v := .ow 104) rfl (og rfl (op_assign rfl rfl rfl)) ?_
      refine rg_done rfl ?_
      show A _ _ _ _ _ _ _
      refine a_region ?_
      refine rg_put (d := 28) (v := .ow 104) rfl (og rfl (op_move rfl rfl rfl)) ?_
      refine rg_imp (imp_leakT 28 104 rfl rfl) ?_
      refine rg_put (d := 29) (v := .d (.fl (.string ((jn (([(ix l k).kind, (es ((ix l k).key))] ++ [(why ((ix l k).why))]))))))) rfl (og rfl (op_call rfl Tryd.func46 nm46 rfl (.cons rfl (.d _) .nil) (jn46 (([(ix l k).kind, (es ((ix l k).key))] ++ [(why ((ix l k).why))])) (by rw [← flds_yes h3]; omega)) rfl)) ?_
      refine rg_put (d := 30) (v := .d (.fl (.string ((((jn (([(ix l k).kind, (es ((ix l k).key))] ++ [(why ((ix l k).why))])))) ++ (⟨#[10]⟩ : ByteArray)))))) rfl (og rfl (op_bin rfl rfl rfl (fun ox oy ow => b_sadd _ _ _ ox oy ow (by rw [← flds_yes h3]; omega)) rfl)) ?_
      refine rg_upd (d := 31) (v := .tu [.fl (.int .i64 ((((((jn (([(ix l k).kind, (es ((ix l k).key))] ++ [(why ((ix l k).why))])))) ++ (⟨#[10]⟩ : ByteArray))).size : Int))), .fl .nilIface]) (nw := [(101, .bt 135 [.dv (.fl v), .ow 5 1 (List.map (rI .u8) ((bys ((prS l k) ++ ((((jn (([(ix l k).kind, (es ((ix l k).key))] ++ [(why ((ix l k).why))])))) ++ (⟨#[10]⟩ : ByteArray)))))))])]) rfl (og rfl (of_eff (op_callX [101] (obs := [.bt 135 [.dv (.fl (ca v k)), .ow 5 1 (List.map (rI .u8) ((bys (prS l k))))]]) (obs' := [.bt 135 [.dv (.fl v), .ow 5 1 (List.map (rI .u8) ((bys ((prS l k) ++ ((((jn (([(ix l k).kind, (es ((ix l k).key))] ++ [(why ((ix l k).why))])))) ++ (⟨#[10]⟩ : ByteArray)))))))]]) (r := .tu [.fl (.int .i64 ((((((jn (([(ix l k).kind, (es ((ix l k).key))] ++ [(why ((ix l k).why))])))) ++ (⟨#[10]⟩ : ByteArray))).size : Int))), .fl .nilIface]) rfl Tryd.func45 nm45 rfl (.q 0 rfl rfl (.d rfl (.d _) .nil)) rfl (And.intro rfl trivial) rfl rfl rfl (ws_any (prS l k) ((((jn (([(ix l k).kind, (es ((ix l k).key))] ++ [(why ((ix l k).why))])))) ++ (⟨#[10]⟩ : ByteArray))) v k (by rw [← flds_yes h3, ByteArray.size_append]; omega)) rfl) rfl)) ?_
      refine rg_done rfl ?_
      show A _ _ _ _ _ _ _
      refine a_region ?_
      refine rg_put (d := 32) (v := .d (.fl (.int .i64 (((k : Int) + 1))))) rfl (og rfl (op_bin rfl rfl rfl (fun x y w => b_add64 _ _ _ x y w (by omega)) rfl)) ?_
      refine rg_put (d := 9) (v := .d (.fl (.int .i64 (((k : Int) + 1))))) rfl (og rfl (op_move rfl rfl rfl)) ?_
      refine rg_done rfl ?_
      show ∃ i, _ ∧ _ ∧ Imp _ _ _ _ _
      refine ⟨k + 1, (by omega), by omega, imp_forget rfl ⟨rfl, rfl, rfl, rfl, rfl, (by first | rfl | exact ci (by omega) | exact ci (by simp) | exact cd (by simp) | simp), trivial⟩ ⟨(congrArg (fun z => Ob.bt 135 [.dv (.fl v), .ow 5 1 (List.map (rI .u8) (bys z))]) (show _ = prS l (k + 1) by rw [prS, lnF, flds_yes h3])), trivial⟩⟩
    · skip
      have h5 := f_bne h3
      refine a_skip ?_
      show A _ _ _ _ _ _ _
      refine a_region ?_
      refine rg_put (d := 28) (v := .ow 103) rfl (og rfl (op_move rfl rfl rfl)) ?_
      refine rg_imp (imp_leakT 28 103 rfl rfl) ?_
      refine rg_put (d := 29) (v := .d (.fl (.string ((jn [(ix l k).kind, (es ((ix l k).key))]))))) rfl (og rfl (op_call rfl Tryd.func46 nm46 rfl (.cons rfl (.d _) .nil) (jn46 [(ix l k).kind, (es ((ix l k).key))] (by rw [← flds_no h3]; omega)) rfl)) ?_
      refine rg_put (d := 30) (v := .d (.fl (.string ((((jn [(ix l k).kind, (es ((ix l k).key))])) ++ (⟨#[10]⟩ : ByteArray)))))) rfl (og rfl (op_bin rfl rfl rfl (fun ox oy ow => b_sadd _ _ _ ox oy ow (by rw [← flds_no h3]; omega)) rfl)) ?_
      refine rg_upd (d := 31) (v := .tu [.fl (.int .i64 ((((((jn [(ix l k).kind, (es ((ix l k).key))])) ++ (⟨#[10]⟩ : ByteArray))).size : Int))), .fl .nilIface]) (nw := [(101, .bt 135 [.dv (.fl v), .ow 5 1 (List.map (rI .u8) ((bys ((prS l k) ++ ((((jn [(ix l k).kind, (es ((ix l k).key))])) ++ (⟨#[10]⟩ : ByteArray)))))))])]) rfl (og rfl (of_eff (op_callX [101] (obs := [.bt 135 [.dv (.fl (ca v k)), .ow 5 1 (List.map (rI .u8) ((bys (prS l k))))]]) (obs' := [.bt 135 [.dv (.fl v), .ow 5 1 (List.map (rI .u8) ((bys ((prS l k) ++ ((((jn [(ix l k).kind, (es ((ix l k).key))])) ++ (⟨#[10]⟩ : ByteArray)))))))]]) (r := .tu [.fl (.int .i64 ((((((jn [(ix l k).kind, (es ((ix l k).key))])) ++ (⟨#[10]⟩ : ByteArray))).size : Int))), .fl .nilIface]) rfl Tryd.func45 nm45 rfl (.q 0 rfl rfl (.d rfl (.d _) .nil)) rfl (And.intro rfl trivial) rfl rfl rfl (ws_any (prS l k) ((((jn [(ix l k).kind, (es ((ix l k).key))])) ++ (⟨#[10]⟩ : ByteArray))) v k (by rw [← flds_no h3, ByteArray.size_append]; omega)) rfl) rfl)) ?_
      refine rg_done rfl ?_
      show A _ _ _ _ _ _ _
      refine a_region ?_
      refine rg_put (d := 32) (v := .d (.fl (.int .i64 (((k : Int) + 1))))) rfl (og rfl (op_bin rfl rfl rfl (fun x y w => b_add64 _ _ _ x y w (by omega)) rfl)) ?_
      refine rg_put (d := 9) (v := .d (.fl (.int .i64 (((k : Int) + 1))))) rfl (og rfl (op_move rfl rfl rfl)) ?_
      refine rg_done rfl ?_
      show ∃ i, _ ∧ _ ∧ Imp _ _ _ _ _
      refine ⟨k + 1, (by omega), by omega, imp_forget rfl ⟨rfl, rfl, rfl, rfl, rfl, (by first | rfl | exact ci (by omega) | exact ci (by simp) | exact cd (by simp) | simp), trivial⟩ ⟨(congrArg (fun z => Ob.bt 135 [.dv (.fl v), .ow 5 1 (List.map (rI .u8) (bys z))]) (show _ = prS l (k + 1) by rw [prS, lnF, flds_no h3])), trivial⟩⟩
  · skip
    have h6 := f_dec h1
    refine a_exit ?_
    show A _ _ _ _ _ _ _
    refine a_rseq ?_
    refine rg_bstr (s := (prS l k)) (u := (ca v k)) bstr47 rfl rfl rfl rfl rfl Tryd.func47 nm47 rfl rfl rfl (ca_or v k) ?_
    refine rg_put (d := 2) (v := .d (.fl (.string (prS l k)))) rfl (og rfl (op_assign rfl rfl rfl)) ?_
    refine rg_done rfl ?_
    refine a_ret ?_
    show ∃ ds, ResL _ _ _ ds ∧ RV.of ds = _
    refine ⟨[.fl (.string (prS l k))], (.cons (.tmp rfl (.d _)) .nil), ?_⟩
    have hkl : k = l.length := by omega
    subst hkl
    rfl
set_option maxHeartbeats 4000000 in
set_option maxRecDepth 100000 in
theorem pr17 (l : List Fc) (h : okF l) : Ctr Tryd.prog 17 [.sl 3 (List.map eFc l)] (.d (.fl (.string (prS l l.length)))) := by
  refine ctr (n := 44) (rs := #[.tmp 2]) (L := [(0, .d (.sl 3 (List.map eFc l)))]) Tryd.func17 rfl rfl rfl rfl rfl (fun w0 U0 => ?_)
  refine a_rseq ?_
  refine rg_put (d := 2) (v := .d (.fl (.string (⟨#[]⟩)))) rfl (og rfl (op_assign rfl rfl rfl)) ?_
  refine rg_done rfl ?_
  refine a_rseq ?_
  refine rg_put (d := 3) (v := .d (.fl (.string (⟨#[]⟩)))) rfl (og rfl (op_assign rfl rfl rfl)) ?_
  refine rg_done rfl ?_
  refine a_seq ?_
  refine a_rseq ?_
  refine rg_put (d := 4) (v := .d (.fl (.int .i64 0))) rfl (og rfl (op_assign rfl rfl rfl)) ?_
  refine rg_done rfl ?_
  refine a_block ?_
  refine a_loop (ι := Nat) (fun k => SS [(0, .d (.sl 3 (List.map eFc l))), (2, .d (.fl (.string (⟨#[]⟩)))), (4, .d (.fl (.int .i64 (k : Int)))), (3, .d (.fl (.string (prS l k))))] []) (fun k => k ≤ l.length) (fun k => l.length - k) 0 (by omega) (imp_forget rfl ⟨rfl, rfl, (by first | rfl | exact ci (by omega) | exact ci (by simp) | exact cd (by simp) | simp), rfl, trivial⟩ trivial) (fun k hok => ?_)
  have hk := hok
  have hps := prS_size h k hk
  have hl1 := h.1
  refine a_seq ?_
  refine a_rseq ?_
  refine rg_put (d := 5) (v := .d (.fl (.int .i64 (k : Int)))) rfl (og rfl (op_move rfl rfl rfl)) ?_
  refine rg_put (d := 6) (v := .d (.sl 3 (List.map eFc l))) rfl (og rfl (op_move rfl rfl rfl)) ?_
  refine rg_put (d := 7) (v := .d (.fl (.int .i64 (l.length : Int)))) rfl (og rfl (s_len rfl Tryd.underlying69 rfl rfl)) ?_
  refine rg_put (d := 8) (v := .d (.fl (.bool ((decide ((k : Int) < (l.length : Int))))))) rfl (og rfl (op_bin rfl rfl rfl (b_lss _ _ _ _) rfl)) ?_
  refine rg_done rfl ?_
  refine a_cond rfl (fun h1 => ?_) (fun h1 => ?_)
  · skip
    have h2 := t_dec h1
    refine a_skip ?_
    show A _ _ _ _ _ _ _
    refine a_seq ?_
    refine a_block ?_
    refine a_dseq (by kernel_rfl) ?_
    have hk2 := h.2 k (by omega)
    have hes := es_size hk2.2
    have hwy := why_size (ix l k).why
    have hjs := jn_size hk2.1 hk2.2
    have s32 : (⟨#[32]⟩ : ByteArray).size = 1 := rfl
    have s10 : (⟨#[10]⟩ : ByteArray).size = 1 := rfl
    refine dr_put (d := 11) (v := .d (.fl (.string (prS l k)))) rfl (og rfl (op_move rfl rfl rfl)) ?_
    refine dr_put (d := 12) (v := .d (.sl 3 (List.map eFc l))) rfl (og rfl (op_move rfl rfl rfl)) ?_
    refine dr_put (d := 13) (v := .d (.fl (.int .i64 (k : Int)))) rfl (og rfl (op_move rfl rfl rfl)) ?_
    refine dr_put (d := 14) (v := .el ((eFc (ix l k)))) rfl (og rfl (s_index rfl Tryd.underlying69 ti81 rfl rfl (by omega) (row_at (by omega)) rfl)) ?_
    refine dr_put (d := 15) (v := .el ((List.drop 0 ((eFc (ix l k)))))) rfl (og rfl (of_eff (s_field_el rfl Tryd.underlying81 rfl ti9 rfl rfl rfl) rfl)) ?_
    refine dr_put (d := 16) (v := .d (.fl (.string ((ix l k).kind)))) rfl (og rfl (op_load_el rfl Tryd.underlying9 rfl rfl rfl rfl)) ?_
    refine dr_put (d := 17) (v := .d (.fl (.string (((prS l k) ++ ((ix l k).kind)))))) rfl (og rfl (op_bin rfl rfl rfl (fun ox oy ow => b_sadd _ _ _ ox oy ow (by first | omega | (simp only [ByteArray.size_append]; omega))) rfl)) ?_
    refine dr_put (d := 18) (v := .d (.fl (.string (((((prS l k) ++ ((ix l k).kind))) ++ (⟨#[32]⟩ : ByteArray)))))) rfl (og rfl (op_bin rfl rfl rfl (fun ox oy ow => b_sadd _ _ _ ox oy ow (by first | omega | (simp only [ByteArray.size_append]; omega))) rfl)) ?_
    refine dr_put (d := 19) (v := .d (.sl 3 (List.map eFc l))) rfl (og rfl (op_move rfl rfl rfl)) ?_
    refine dr_put (d := 20) (v := .d (.fl (.int .i64 (k : Int)))) rfl (og rfl (op_move rfl rfl rfl)) ?_
    refine dr_put (d := 21) (v := .el ((eFc (ix l k)))) rfl (og rfl (s_index rfl Tryd.underlying69 ti81 rfl rfl (by omega) (row_at (by omega)) rfl)) ?_
    refine dr_put (d := 22) (v := .el ((List.drop 1 ((eFc (ix l k)))))) rfl (og rfl (of_eff (s_field_el rfl Tryd.underlying81 rfl ti9 rfl rfl rfl) rfl)) ?_
    refine dr_put (d := 23) (v := .d (.fl (.string ((ix l k).key)))) rfl (og rfl (op_load_el rfl Tryd.underlying9 rfl rfl rfl rfl)) ?_
    refine dr_put (d := 24) (v := .d (.fl (.string ((es ((ix l k).key)))))) rfl (og rfl (op_call rfl Tryd.func48 nm48 rfl (.cons rfl (.d _) .nil) (es48 ((ix l k).key) (by have := hk2.2; omega)) rfl)) ?_
    refine dr_put (d := 25) (v := .d (.fl (.string (((((((prS l k) ++ ((ix l k).kind))) ++ (⟨#[32]⟩ : ByteArray))) ++ ((es ((ix l k).key)))))))) rfl (og rfl (op_bin rfl rfl rfl (fun ox oy ow => b_sadd _ _ _ ox oy ow (by first | omega | (simp only [ByteArray.size_append]; omega))) rfl)) ?_
    refine dr_put (d := 3) (v := .d (.fl (.string (((((((prS l k) ++ ((ix l k).kind))) ++ (⟨#[32]⟩ : ByteArray))) ++ ((es ((ix l k).key)))))))) rfl (og rfl (op_assign rfl rfl rfl)) ?_
    refine dr_done rfl (sepB_of [0, 0, 0, 6, 14, 30, 63, 127, 0, 0, 768, 1792, 3840, 7936, 16383, 32767] (by kernel_rfl)) (by kernel_rfl) ?_
    refine a_seq ?_
    refine a_rseq ?_
    refine rg_put (d := 26) (v := .d (.sl 3 (List.map eFc l))) rfl (og rfl (op_move rfl rfl rfl)) ?_
    refine rg_put (d := 27) (v := .d (.fl (.int .i64 (k : Int)))) rfl (og rfl (op_move rfl rfl rfl)) ?_
    refine rg_put (d := 28) (v := .el ((eFc (ix l k)))) rfl (og rfl (s_index rfl Tryd.underlying69 ti81 rfl rfl (by omega) (row_at (by omega)) rfl)) ?_
    refine rg_put (d := 29) (v := .el ((List.drop 2 ((eFc (ix l k)))))) rfl (og rfl (of_eff (s_field_el rfl Tryd.underlying81 rfl ti3 rfl rfl rfl) rfl)) ?_
    refine rg_put (d := 30) (v := .d (.fl (.int .i64 ((ix l k).why)))) rfl (og rfl (op_load_el rfl Tryd.underlying3 rfl rfl rfl rfl)) ?_
    refine rg_put (d := 31) (v := .d (.fl (.bool (((ix l k).why != 0))))) rfl (og rfl (op_bin rfl rfl rfl (b_neq _ _ _ _) rfl)) ?_
    refine rg_done rfl ?_
    refine a_cond rfl (fun h3 => ?_) (fun h3 => ?_)
    · skip
      have h4 := t_bne h3
      refine a_region ?_
      refine rg_put (d := 32) (v := .d (.fl (.string (((((((prS l k) ++ ((ix l k).kind))) ++ (⟨#[32]⟩ : ByteArray))) ++ ((es ((ix l k).key)))))))) rfl (og rfl (op_move rfl rfl rfl)) ?_
      refine rg_put (d := 33) (v := .d (.fl (.string (((((((((prS l k) ++ ((ix l k).kind))) ++ (⟨#[32]⟩ : ByteArray))) ++ ((es ((ix l k).key))))) ++ (⟨#[32]⟩ : ByteArray)))))) rfl (og rfl (op_bin rfl rfl rfl (fun ox oy ow => b_sadd _ _ _ ox oy ow (by first | omega | (simp only [ByteArray.size_append]; omega))) rfl)) ?_
      refine rg_put (d := 34) (v := .d (.sl 3 (List.map eFc l))) rfl (og rfl (op_move rfl rfl rfl)) ?_
      refine rg_put (d := 35) (v := .d (.fl (.int .i64 (k : Int)))) rfl (og rfl (op_move rfl rfl rfl)) ?_
      refine rg_put (d := 36) (v := .el ((eFc (ix l k)))) rfl (og rfl (s_index rfl Tryd.underlying69 ti81 rfl rfl (by omega) (row_at (by omega)) rfl)) ?_
      refine rg_put (d := 37) (v := .el ((List.drop 2 ((eFc (ix l k)))))) rfl (og rfl (of_eff (s_field_el rfl Tryd.underlying81 rfl ti3 rfl rfl rfl) rfl)) ?_
      refine rg_put (d := 38) (v := .d (.fl (.int .i64 ((ix l k).why)))) rfl (og rfl (op_load_el rfl Tryd.underlying3 rfl rfl rfl rfl)) ?_
      refine rg_put (d := 39) (v := .d (.fl (.string ((why ((ix l k).why)))))) rfl (og rfl (op_call rfl Tryd.func19 nm19 rfl (.cons rfl (.d _) .nil) (why19 ((ix l k).why)) rfl)) ?_
      refine rg_put (d := 40) (v := .d (.fl (.string (((((((((((prS l k) ++ ((ix l k).kind))) ++ (⟨#[32]⟩ : ByteArray))) ++ ((es ((ix l k).key))))) ++ (⟨#[32]⟩ : ByteArray))) ++ ((why ((ix l k).why)))))))) rfl (og rfl (op_bin rfl rfl rfl (fun ox oy ow => b_sadd _ _ _ ox oy ow (by first | omega | (simp only [ByteArray.size_append]; omega))) rfl)) ?_
      refine rg_put (d := 3) (v := .d (.fl (.string (((((((((((prS l k) ++ ((ix l k).kind))) ++ (⟨#[32]⟩ : ByteArray))) ++ ((es ((ix l k).key))))) ++ (⟨#[32]⟩ : ByteArray))) ++ ((why ((ix l k).why)))))))) rfl (og rfl (op_assign rfl rfl rfl)) ?_
      refine rg_done rfl ?_
      show A _ _ _ _ _ _ _
      refine a_region ?_
      refine rg_put (d := 41) (v := .d (.fl (.string (((((((((((prS l k) ++ ((ix l k).kind))) ++ (⟨#[32]⟩ : ByteArray))) ++ ((es ((ix l k).key))))) ++ (⟨#[32]⟩ : ByteArray))) ++ ((why ((ix l k).why)))))))) rfl (og rfl (op_move rfl rfl rfl)) ?_
      refine rg_put (d := 42) (v := .d (.fl (.string (((((((((((((prS l k) ++ ((ix l k).kind))) ++ (⟨#[32]⟩ : ByteArray))) ++ ((es ((ix l k).key))))) ++ (⟨#[32]⟩ : ByteArray))) ++ ((why ((ix l k).why))))) ++ (⟨#[10]⟩ : ByteArray)))))) rfl (og rfl (op_bin rfl rfl rfl (fun ox oy ow => b_sadd _ _ _ ox oy ow (by first | omega | (simp only [ByteArray.size_append]; omega))) rfl)) ?_
      refine rg_put (d := 3) (v := .d (.fl (.string (((((((((((((prS l k) ++ ((ix l k).kind))) ++ (⟨#[32]⟩ : ByteArray))) ++ ((es ((ix l k).key))))) ++ (⟨#[32]⟩ : ByteArray))) ++ ((why ((ix l k).why))))) ++ (⟨#[10]⟩ : ByteArray)))))) rfl (og rfl (op_assign rfl rfl rfl)) ?_
      refine rg_done rfl ?_
      show A _ _ _ _ _ _ _
      refine a_region ?_
      refine rg_put (d := 9) (v := .d (.fl (.int .i64 (k : Int)))) rfl (og rfl (op_move rfl rfl rfl)) ?_
      refine rg_put (d := 10) (v := .d (.fl (.int .i64 (((k : Int) + 1))))) rfl (og rfl (op_bin rfl rfl rfl (fun x y w => b_add64 _ _ _ x y w (by omega)) rfl)) ?_
      refine rg_put (d := 4) (v := .d (.fl (.int .i64 (((k : Int) + 1))))) rfl (og rfl (op_assign rfl rfl rfl)) ?_
      refine rg_done rfl ?_
      show ∃ i, _ ∧ _ ∧ Imp _ _ _ _ _
      refine ⟨k + 1, (by omega), by omega, imp_forget rfl ⟨rfl, rfl, (by first | rfl | exact ci (by omega) | exact ci (by simp) | exact cd (by simp) | simp), (congrArg (fun z => AV.d (.fl (.string z))) (ref_yes h3)), trivial⟩ trivial⟩
    · skip
      have h5 := f_bne h3
      refine a_skip ?_
      show A _ _ _ _ _ _ _
      refine a_region ?_
      refine rg_put (d := 41) (v := .d (.fl (.string (((((((prS l k) ++ ((ix l k).kind))) ++ (⟨#[32]⟩ : ByteArray))) ++ ((es ((ix l k).key)))))))) rfl (og rfl (op_move rfl rfl rfl)) ?_
      refine rg_put (d := 42) (v := .d (.fl (.string (((((((((prS l k) ++ ((ix l k).kind))) ++ (⟨#[32]⟩ : ByteArray))) ++ ((es ((ix l k).key))))) ++ (⟨#[10]⟩ : ByteArray)))))) rfl (og rfl (op_bin rfl rfl rfl (fun ox oy ow => b_sadd _ _ _ ox oy ow (by first | omega | (simp only [ByteArray.size_append]; omega))) rfl)) ?_
      refine rg_put (d := 3) (v := .d (.fl (.string (((((((((prS l k) ++ ((ix l k).kind))) ++ (⟨#[32]⟩ : ByteArray))) ++ ((es ((ix l k).key))))) ++ (⟨#[10]⟩ : ByteArray)))))) rfl (og rfl (op_assign rfl rfl rfl)) ?_
      refine rg_done rfl ?_
      show A _ _ _ _ _ _ _
      refine a_region ?_
      refine rg_put (d := 9) (v := .d (.fl (.int .i64 (k : Int)))) rfl (og rfl (op_move rfl rfl rfl)) ?_
      refine rg_put (d := 10) (v := .d (.fl (.int .i64 (((k : Int) + 1))))) rfl (og rfl (op_bin rfl rfl rfl (fun x y w => b_add64 _ _ _ x y w (by omega)) rfl)) ?_
      refine rg_put (d := 4) (v := .d (.fl (.int .i64 (((k : Int) + 1))))) rfl (og rfl (op_assign rfl rfl rfl)) ?_
      refine rg_done rfl ?_
      show ∃ i, _ ∧ _ ∧ Imp _ _ _ _ _
      refine ⟨k + 1, (by omega), by omega, imp_forget rfl ⟨rfl, rfl, (by first | rfl | exact ci (by omega) | exact ci (by simp) | exact cd (by simp) | simp), (congrArg (fun z => AV.d (.fl (.string z))) (ref_no h3)), trivial⟩ trivial⟩
  · skip
    have h6 := f_dec h1
    refine a_exit ?_
    show A _ _ _ _ _ _ _
    refine a_rseq ?_
    refine rg_put (d := 43) (v := .d (.fl (.string (prS l k)))) rfl (og rfl (op_move rfl rfl rfl)) ?_
    refine rg_put (d := 2) (v := .d (.fl (.string (prS l k)))) rfl (og rfl (op_assign rfl rfl rfl)) ?_
    refine rg_done rfl ?_
    refine a_ret ?_
    show ∃ ds, ResL _ _ _ ds ∧ RV.of ds = _
    refine ⟨[.fl (.string (prS l k))], (.cons (.tmp rfl (.d _)) .nil), ?_⟩
    have hkl : k = l.length := by omega
    subst hkl
    rfl
end Go.Proofs.YtgfbgkoifcacdaaDoor.Wk
