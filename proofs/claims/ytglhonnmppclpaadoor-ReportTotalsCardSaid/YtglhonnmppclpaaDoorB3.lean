/- The report of a charge, both sides. Conditions: at most 40 lines, texts of at most 200 bytes. -/
import Derived.Test.YtglhonnmppclpaaDoorB2
set_option linter.unusedSimpArgs false
set_option linter.unusedVariables false
namespace Go.Proofs.YtglhonnmppclpaaDoor.Wk
open Go Go.RowKit Go.Proofs.YtglhonnmppclpaaDoor.Av
structure OkC (x : Cg) : Prop where
  ln : x.lines.length ≤ 40
  key : x.key.size ≤ 200
  veh : x.veh.size ≤ 200
  sys : x.sys.size ≤ 200
  cls : in64 x.cls
  time : in64 x.time
  cents : in64 x.cents
  fit : -1125899906842624 ≤ x.cents ∧ x.cents ≤ 1125899906842624
  li : ∀ q, q < x.lines.length → (ix x.lines q).text.size ≤ 200 ∧ in64 (ix x.lines q).cents
def cF (x : Cg) : List ByteArray := [⟨#[99, 104, 97, 114, 103, 101]⟩, es x.key, es x.veh, es x.sys, fm x.cls, fm x.time, sh x.cents]
def lF (l : Ln) : List ByteArray := [⟨#[108, 105, 110, 101]⟩, sh l.cents, es l.text]
theorem cF_jn {x : Cg} (h : OkC x) : (jn (cF x)).size ≤ 4214 := jn_bound (c := 601) (List.forall_mem_cons.2 ⟨(by decide), (List.forall_mem_cons.2 ⟨(by have := es_size h.key; omega), (List.forall_mem_cons.2 ⟨(by have := es_size h.veh; omega), (List.forall_mem_cons.2 ⟨(by have := es_size h.sys; omega), (List.forall_mem_cons.2 ⟨(Nat.le_trans (fm_size h.cls) (by decide)), (List.forall_mem_cons.2 ⟨(Nat.le_trans (fm_size h.time) (by decide)), (List.forall_mem_cons.2 ⟨(Nat.le_trans (sh_size h.cents) (by decide)), (fun _ h => by cases h)⟩)⟩)⟩)⟩)⟩)⟩)⟩)
theorem lF_jn {l : Ln} (h1 : l.text.size ≤ 200) (h2 : in64 l.cents) : (jn (lF l)).size ≤ 1806 := jn_bound (c := 601) (List.forall_mem_cons.2 ⟨(by decide), (List.forall_mem_cons.2 ⟨(Nat.le_trans (sh_size h2) (by decide)), (List.forall_mem_cons.2 ⟨(by have := es_size h1; omega), (fun _ h => by cases h)⟩)⟩)⟩)
theorem ln_size (l : List ByteArray) : (ln l).size = (jn l).size + 1 := by unfold ln; rw [ByteArray.size_append]; rfl
/-- the report of a charge: its first line, and k lines -/
def chP (x : Cg) : Nat → ByteArray
  | 0 => ln (cF x)
  | k + 1 => chP x k ++ ln (lF (ix x.lines k))
def chg (x : Cg) : ByteArray := chP x x.lines.length
theorem chP_zero (x : Cg) : (⟨#[]⟩ : ByteArray) ++ ln [⟨#[99, 104, 97, 114, 103, 101]⟩, es x.key, es x.veh, es x.sys, fm x.cls, fm x.time, sh x.cents] = chP x 0 := ByteArray.empty_append
theorem chP_zr (x : Cg) : ln [⟨#[99, 104, 97, 114, 103, 101]⟩, es x.key, es x.veh, es x.sys, fm x.cls, fm x.time, sh x.cents] = chP x 0 := rfl
theorem chP_step (x : Cg) (k : Nat) : chP x k ++ ln [⟨#[108, 105, 110, 101]⟩, sh (ix x.lines k).cents, es (ix x.lines k).text] = chP x (k + 1) := rfl
theorem cX_ln {x : Cg} (h : OkC x) : (ln [⟨#[99, 104, 97, 114, 103, 101]⟩, es x.key, es x.veh, es x.sys, fm x.cls, fm x.time, sh x.cents]).size ≤ 4215 := by
  have h1 := cF_jn h
  have h2 := ln_size (cF x)
  show (ln (cF x)).size ≤ _
  omega
theorem cX_jn {x : Cg} (h : OkC x) : (jn [⟨#[99, 104, 97, 114, 103, 101]⟩, es x.key, es x.veh, es x.sys, fm x.cls, fm x.time, sh x.cents]).size ≤ 1000000 := Nat.le_trans (cF_jn h) (by decide)
theorem lX_jn {x : Cg} {k : Nat} (h : (ix x.lines k).text.size ≤ 200 ∧ in64 (ix x.lines k).cents) : (jn [⟨#[108, 105, 110, 101]⟩, sh (ix x.lines k).cents, es (ix x.lines k).text]).size ≤ 1000000 := Nat.le_trans (lF_jn h.1 h.2) (by decide)
theorem lX_ln {x : Cg} {k : Nat} (h : (ix x.lines k).text.size ≤ 200 ∧ in64 (ix x.lines k).cents) : (ln [⟨#[108, 105, 110, 101]⟩, sh (ix x.lines k).cents, es (ix x.lines k).text]).size ≤ 1807 := by
  have h1 := lF_jn h.1 h.2
  have h2 := ln_size (lF (ix x.lines k))
  show (ln (lF (ix x.lines k))).size ≤ _
  omega
theorem chP_size {x : Cg} (h : OkC x) : ∀ k, k ≤ x.lines.length → (chP x k).size ≤ 4215 + 1807 * k
  | 0, _ => by
    have := cF_jn h
    show (ln (cF x)).size ≤ _
    rw [ln_size]; omega
  | k + 1, hk => by
    have h1 := chP_size h k (by omega)
    have h2 := h.li k (by omega)
    have h3 := lF_jn h2.1 h2.2
    show (chP x k ++ ln (lF (ix x.lines k))).size ≤ _
    rw [ByteArray.size_append, ln_size]; omega
theorem chg_size {x : Cg} (h : OkC x) : (chg x).size ≤ 76495 := by
  have h1 := chP_size h _ (Nat.le_refl _)
  have := h.ln
  unfold chg; omega

set_option maxHeartbeats 4000000 in
set_option maxRecDepth 100000 in
theorem chg11 (x : Cg) (hx : OkC x) : CtrK Tryd.prog KK 9 [.ag (eCg x)] (.d (.fl (.string (chg x)))) := by
  have q1 := hx.key
  have q2 := hx.veh
  have q3 := hx.sys
  have q0 := hx.ln
  refine ctrK (n := 45) (rs := #[.tmp 2]) (L := [(0, .d (.ag (eCg x)))]) Tryd.func9 rfl rfl rfl rfl rfl (fun w0 U0 hG => ?_)
  refine a_rseq ?_
  refine rg_nam (d := 1) (v := .pt 101 0) (m := 101) (nw := [(101, .bx 24 (eCg x))]) rfl (og rfl (of_eff (op_box 101 rfl rfl rfl rfl) rfl)) rfl ?_
  refine rg_put (d := 2) (v := .d (.fl (.string (⟨#[]⟩)))) rfl (og rfl (op_assign rfl rfl rfl)) ?_
  refine rg_done rfl ?_
  refine a_rseq ?_
  refine rg_nam (d := 3) (v := .pt 102 0) (m := 102) (nw := [(102, .bx 88 [.fl (.pointer none), .fl (.slice none 0 0)])]) rfl (og rfl (of_eff (s_alloc 102 rfl ti88 (by kernel_rfl) rfl) rfl)) rfl ?_
  refine rg_imp (imp_bt 102 rfl) ?_
  refine rg_imp (imp_btnil 102 1 5 1 rfl rfl) ?_
  refine rg_name 3 102 rfl (fun v hv => ?_)
  refine rg_done rfl ?_
  refine a_dseq (by kernel_rfl) ?_
  refine dr_put (d := 6) (v := .pt 101 0) rfl (og rfl (of_eff (s_field_pt rfl Tryd.underlying24 rfl ti9 rfl rfl rfl) rfl)) ?_
  refine dr_put (d := 7) (v := .d (.fl (.string x.key))) rfl (og rfl (op_load_pt rfl Tryd.underlying9 rfl rfl rfl rfl rfl)) ?_
  refine dr_put (d := 8) (v := .d (.fl (.string (es x.key)))) rfl (og rfl (op_call rfl Tryd.func24 nm24 rfl (.cons rfl (.d _) .nil) (es27 x.key (by omega)) rfl)) ?_
  refine dr_put (d := 9) (v := .pt 101 1) rfl (og rfl (of_eff (s_field_pt rfl Tryd.underlying24 rfl ti9 rfl rfl rfl) rfl)) ?_
  refine dr_put (d := 10) (v := .d (.fl (.string x.veh))) rfl (og rfl (op_load_pt rfl Tryd.underlying9 rfl rfl rfl rfl rfl)) ?_
  refine dr_put (d := 11) (v := .d (.fl (.string (es x.veh)))) rfl (og rfl (op_call rfl Tryd.func24 nm24 rfl (.cons rfl (.d _) .nil) (es27 x.veh (by omega)) rfl)) ?_
  refine dr_put (d := 12) (v := .pt 101 2) rfl (og rfl (of_eff (s_field_pt rfl Tryd.underlying24 rfl ti9 rfl rfl rfl) rfl)) ?_
  refine dr_put (d := 13) (v := .d (.fl (.string x.sys))) rfl (og rfl (op_load_pt rfl Tryd.underlying9 rfl rfl rfl rfl rfl)) ?_
  refine dr_put (d := 14) (v := .d (.fl (.string (es x.sys)))) rfl (og rfl (op_call rfl Tryd.func24 nm24 rfl (.cons rfl (.d _) .nil) (es27 x.sys (by omega)) rfl)) ?_
  refine dr_put (d := 15) (v := .pt 101 3) rfl (og rfl (of_eff (s_field_pt rfl Tryd.underlying24 rfl ti3 rfl rfl rfl) rfl)) ?_
  refine dr_put (d := 16) (v := .d (.fl (.int .i64 x.cls))) rfl (og rfl (op_load_pt rfl Tryd.underlying3 rfl rfl rfl rfl rfl)) ?_
  refine dr_put (d := 17) (v := .d (.fl (.string (fm x.cls)))) rfl (og rfl (op_callK kkst hG rfl Tryd.func25 nm25 rfl (.cons rfl (.d _) .nil) (fm28 x.cls hx.cls) rfl)) ?_
  refine dr_put (d := 18) (v := .pt 101 4) rfl (og rfl (of_eff (s_field_pt rfl Tryd.underlying24 rfl ti3 rfl rfl rfl) rfl)) ?_
  refine dr_put (d := 19) (v := .d (.fl (.int .i64 x.time))) rfl (og rfl (op_load_pt rfl Tryd.underlying3 rfl rfl rfl rfl rfl)) ?_
  refine dr_put (d := 20) (v := .d (.fl (.string (fm x.time)))) rfl (og rfl (op_callK kkst hG rfl Tryd.func25 nm25 rfl (.cons rfl (.d _) .nil) (fm28 x.time hx.time) rfl)) ?_
  refine dr_put (d := 21) (v := .pt 101 6) rfl (og rfl (of_eff (s_field_pt rfl Tryd.underlying24 rfl ti3 rfl rfl rfl) rfl)) ?_
  refine dr_put (d := 22) (v := .d (.fl (.int .i64 x.cents))) rfl (og rfl (op_load_pt rfl Tryd.underlying3 rfl rfl rfl rfl rfl)) ?_
  refine dr_put (d := 23) (v := .d (.fl (.string (sh x.cents)))) rfl (og rfl (op_callK kkst hG rfl Tryd.func26 nm26 rfl (.cons rfl (.d _) .nil) (sh29 x.cents hx.cents) rfl)) ?_
  refine dr_put (d := 24) (v := .d (.sl 1 (List.map rS ([⟨#[99, 104, 97, 114, 103, 101]⟩, (es x.key), (es x.veh), (es x.sys), (fm x.cls), (fm x.time), (sh x.cents)])))) rfl (og rfl (of_eff (op_slices rfl Tryd.underlying98 ti9 rfl rfl rfl (by kernel_rfl) (xs := [.fl (.string (⟨#[99, 104, 97, 114, 103, 101]⟩)), .fl (.string (es x.key)), .fl (.string (es x.veh)), .fl (.string (es x.sys)), .fl (.string (fm x.cls)), .fl (.string (fm x.time)), .fl (.string (sh x.cents))]) rfl rfl (.cons rfl rfl (.d _) rfl rfl rfl (.cons rfl rfl (.d _) rfl rfl rfl (.cons rfl rfl (.d _) rfl rfl rfl (.cons rfl rfl (.d _) rfl rfl rfl (.cons rfl rfl (.d _) rfl rfl rfl (.cons rfl rfl (.d _) rfl rfl rfl (.cons rfl rfl (.d _) rfl rfl rfl .nil))))))) rfl) rfl)) ?_
  refine dr_put (d := 25) (v := .d (.fl (.string ((ln ([⟨#[99, 104, 97, 114, 103, 101]⟩, (es x.key), (es x.veh), (es x.sys), (fm x.cls), (fm x.time), (sh x.cents)])))))) rfl (og rfl (op_call rfl Tryd.func23 nm23 rfl (.cons rfl (.d _) .nil) (ln26 ([⟨#[99, 104, 97, 114, 103, 101]⟩, (es x.key), (es x.veh), (es x.sys), (fm x.cls), (fm x.time), (sh x.cents)]) (cX_jn hx)) rfl)) ?_
  refine dr_upd (d := 26) (v := .tu [.fl (.int .i64 ((((ln ([⟨#[99, 104, 97, 114, 103, 101]⟩, (es x.key), (es x.veh), (es x.sys), (fm x.cls), (fm x.time), (sh x.cents)]))).size : Int))), .fl .nilIface]) (nw := [(102, .bt 88 [.dv (.fl v), .ow 5 1 (List.map (rI .u8) ((bys ((⟨#[]⟩ : ByteArray) ++ ((ln ([⟨#[99, 104, 97, 114, 103, 101]⟩, (es x.key), (es x.veh), (es x.sys), (fm x.cls), (fm x.time), (sh x.cents)])))))))])]) rfl (og rfl (of_eff (op_callX [102] (obs := [.bt 88 [.dv (.fl (.pointer none)), .ow 5 1 (List.map (rI .u8) ((bys (⟨#[]⟩ : ByteArray))))]]) (obs' := [.bt 88 [.dv (.fl v), .ow 5 1 (List.map (rI .u8) ((bys ((⟨#[]⟩ : ByteArray) ++ ((ln ([⟨#[99, 104, 97, 114, 103, 101]⟩, (es x.key), (es x.veh), (es x.sys), (fm x.cls), (fm x.time), (sh x.cents)])))))))]]) (r := .tu [.fl (.int .i64 ((((ln ([⟨#[99, 104, 97, 114, 103, 101]⟩, (es x.key), (es x.veh), (es x.sys), (fm x.cls), (fm x.time), (sh x.cents)]))).size : Int))), .fl .nilIface]) rfl Tryd.func22 nm22 rfl (.q 0 rfl rfl (.d rfl (.d _) .nil)) rfl (And.intro rfl trivial) rfl rfl rfl (ws_fresh (⟨#[]⟩ : ByteArray) ((ln ([⟨#[99, 104, 97, 114, 103, 101]⟩, (es x.key), (es x.veh), (es x.sys), (fm x.cls), (fm x.time), (sh x.cents)]))) v (by have h1 := cX_ln hx; have h3 : (⟨#[]⟩ : ByteArray).size = 0 := rfl; omega)) rfl) rfl)) ?_
  refine dr_done rfl (sepB_of [0, 1, 3, 0, 8, 31, 0, 64, 255, 0, 512, 2047, 0, 4096, 16383, 0, 32768, 131071, 262143, 524287, 1048575] (by kernel_rfl)) (by kernel_rfl) ?_
  refine a_seq ?_
  refine a_rseq ?_
  refine rg_put (d := 27) (v := .pt 101 5) rfl (og rfl (of_eff (s_field_pt rfl Tryd.underlying24 rfl ti22 rfl rfl rfl) rfl)) ?_
  refine rg_put (d := 28) (v := .d (.sl 2 (List.map eLn x.lines))) rfl (og rfl (op_load_pt rfl Tryd.underlying22 rfl rfl rfl rfl rfl)) ?_
  refine rg_put (d := 29) (v := .d (.fl (.int .i64 (x.lines.length : Int)))) rfl (og rfl (s_len rfl Tryd.underlying22 rfl rfl)) ?_
  refine rg_put (d := 30) (v := .d (.fl (.int .i64 0))) rfl (og rfl (op_move rfl rfl rfl)) ?_
  refine rg_done rfl ?_
  refine a_block ?_
  refine a_loop (ι := Nat) (fun k => SS [(0, .d (.ag (eCg x))), (1, .pt 101 0), (2, .d (.fl (.string (⟨#[]⟩)))), (3, .pv 102 v), (28, .d (.sl 2 (List.map eLn x.lines))), (29, .d (.fl (.int .i64 (x.lines.length : Int)))), (30, .d (.fl (.int .i64 (k : Int))))] [(101, .bx 24 (eCg x)), (102, .bt 88 [.dv (.fl v), .ow 5 1 (List.map (rI .u8) ((bys (chP x k))))])]) (fun k => k ≤ x.lines.length) (fun k => x.lines.length - k) 0 (by omega) (imp_forget rfl ⟨rfl, rfl, rfl, rfl, rfl, rfl, (by first | rfl | exact ci (by omega) | exact ci (by simp) | exact cd (by simp) | simp), trivial⟩ ⟨rfl, (congrArg (fun z => Ob.bt 88 [.dv (.fl v), .ow 5 1 (List.map (rI .u8) (bys z))]) (chP_zero x)), trivial⟩) (fun k hok => ?_)
  have hk := hok
  have hps := chP_size hx k hk
  refine a_rseq ?_
  refine rg_put (d := 31) (v := .d (.fl (.bool ((decide ((k : Int) < (x.lines.length : Int))))))) rfl (og rfl (op_bin rfl rfl rfl (b_lss _ _ _ _) rfl)) ?_
  refine rg_done rfl ?_
  refine a_seq ?_
  refine a_cond rfl (fun h1 => ?_) (fun h1 => ?_)
  · skip
    have h2 := t_dec h1
    refine a_skip ?_
    show A _ _ _ _ _ _ _
    refine a_seq ?_
    refine a_block ?_
    refine a_rseq ?_
    have hli := hx.li k (by omega)
    have q4 := hli.1
    refine rg_put (d := 32) (v := .el ((eLn (ix x.lines k)))) rfl (og rfl (s_index rfl Tryd.underlying22 ti84 rfl rfl (by omega) (row_at (by omega)) rfl)) ?_
    refine rg_put (d := 33) (v := .d (.ag (eLn (ix x.lines k)))) rfl (og rfl (of_eff (s_load_els rfl Tryd.underlying84 rfl ti84 rfl rfl rfl) rfl)) ?_
    refine rg_nam (d := 5) (v := .pt 103 0) (m := 103) (nw := [(103, .bx 84 ([.fl (.string (⟨#[]⟩)), .fl (.int .i64 0)]))]) rfl (og rfl (of_eff (s_alloc 103 rfl ti84 (by kernel_rfl) rfl) rfl)) rfl ?_
    refine rg_sto (nw := [(103, .bx 84 ((eLn (ix x.lines k))))]) rfl (og rfl (of_eff (s_store rfl rfl ti84 rfl rfl rfl rfl rfl rfl) rfl)) ?_
    refine rg_done rfl ?_
    refine a_draw (by kernel_rfl) ?_
    refine dr_put (d := 34) (v := .pt 103 1) rfl (og rfl (of_eff (s_field_pt rfl Tryd.underlying84 rfl ti3 rfl rfl rfl) rfl)) ?_
    refine dr_put (d := 35) (v := .d (.fl (.int .i64 ((ix x.lines k).cents)))) rfl (og rfl (op_load_pt rfl Tryd.underlying3 rfl rfl rfl rfl rfl)) ?_
    refine dr_put (d := 36) (v := .d (.fl (.string ((sh ((ix x.lines k).cents)))))) rfl (og rfl (op_callK kkst hG rfl Tryd.func26 nm26 rfl (.cons rfl (.d _) .nil) (sh29 ((ix x.lines k).cents) hli.2) rfl)) ?_
    refine dr_put (d := 37) (v := .pt 103 0) rfl (og rfl (of_eff (s_field_pt rfl Tryd.underlying84 rfl ti9 rfl rfl rfl) rfl)) ?_
    refine dr_put (d := 38) (v := .d (.fl (.string ((ix x.lines k).text)))) rfl (og rfl (op_load_pt rfl Tryd.underlying9 rfl rfl rfl rfl rfl)) ?_
    refine dr_put (d := 39) (v := .d (.fl (.string ((es ((ix x.lines k).text)))))) rfl (og rfl (op_call rfl Tryd.func24 nm24 rfl (.cons rfl (.d _) .nil) (es27 ((ix x.lines k).text) (by omega)) rfl)) ?_
    refine dr_put (d := 40) (v := .d (.sl 1 (List.map rS ([⟨#[108, 105, 110, 101]⟩, (sh ((ix x.lines k).cents)), (es ((ix x.lines k).text))])))) rfl (og rfl (of_eff (op_slices rfl Tryd.underlying98 ti9 rfl rfl rfl (by kernel_rfl) (xs := [.fl (.string (⟨#[108, 105, 110, 101]⟩)), .fl (.string ((sh ((ix x.lines k).cents)))), .fl (.string ((es ((ix x.lines k).text))))]) rfl rfl (.cons rfl rfl (.d _) rfl rfl rfl (.cons rfl rfl (.d _) rfl rfl rfl (.cons rfl rfl (.d _) rfl rfl rfl .nil))) rfl) rfl)) ?_
    refine dr_put (d := 41) (v := .d (.fl (.string ((ln ([⟨#[108, 105, 110, 101]⟩, (sh ((ix x.lines k).cents)), (es ((ix x.lines k).text))])))))) rfl (og rfl (op_call rfl Tryd.func23 nm23 rfl (.cons rfl (.d _) .nil) (ln26 ([⟨#[108, 105, 110, 101]⟩, (sh ((ix x.lines k).cents)), (es ((ix x.lines k).text))]) (lX_jn hli)) rfl)) ?_
    refine dr_upd (d := 42) (v := .tu [.fl (.int .i64 ((((ln ([⟨#[108, 105, 110, 101]⟩, (sh ((ix x.lines k).cents)), (es ((ix x.lines k).text))]))).size : Int))), .fl .nilIface]) (nw := [(102, .bt 88 [.dv (.fl v), .ow 5 1 (List.map (rI .u8) ((bys ((chP x k) ++ ((ln ([⟨#[108, 105, 110, 101]⟩, (sh ((ix x.lines k).cents)), (es ((ix x.lines k).text))])))))))])]) rfl (og rfl (of_eff (op_callX [102] (obs := [.bt 88 [.dv (.fl v), .ow 5 1 (List.map (rI .u8) ((bys (chP x k))))]]) (obs' := [.bt 88 [.dv (.fl v), .ow 5 1 (List.map (rI .u8) ((bys ((chP x k) ++ ((ln ([⟨#[108, 105, 110, 101]⟩, (sh ((ix x.lines k).cents)), (es ((ix x.lines k).text))])))))))]]) (r := .tu [.fl (.int .i64 ((((ln ([⟨#[108, 105, 110, 101]⟩, (sh ((ix x.lines k).cents)), (es ((ix x.lines k).text))]))).size : Int))), .fl .nilIface]) rfl Tryd.func22 nm22 rfl (.q 0 rfl rfl (.d rfl (.d _) .nil)) rfl (And.intro rfl trivial) rfl rfl rfl (ws_used (chP x k) ((ln ([⟨#[108, 105, 110, 101]⟩, (sh ((ix x.lines k).cents)), (es ((ix x.lines k).text))]))) v (by have h1 := lX_ln hli; omega)) rfl) rfl)) ?_
    refine dr_done rfl (by kernel_rfl) (by kernel_rfl) ?_
    show A _ _ _ _ _ _ _
    refine a_region ?_
    refine rg_put (d := 43) (v := .d (.fl (.int .i64 (((k : Int) + 1))))) rfl (og rfl (op_bin rfl rfl rfl (fun x y w => b_add64 _ _ _ x y w (by omega)) rfl)) ?_
    refine rg_put (d := 30) (v := .d (.fl (.int .i64 (((k : Int) + 1))))) rfl (og rfl (op_move rfl rfl rfl)) ?_
    refine rg_done rfl ?_
    show ∃ i, _ ∧ _ ∧ Imp _ _ _ _ _
    refine ⟨k + 1, (by omega), by omega, imp_forget rfl ⟨rfl, rfl, rfl, rfl, rfl, rfl, (by first | rfl | exact ci (by omega) | exact ci (by simp) | exact cd (by simp) | simp), trivial⟩ ⟨rfl, (congrArg (fun z => Ob.bt 88 [.dv (.fl v), .ow 5 1 (List.map (rI .u8) (bys z))]) (chP_step x k)), trivial⟩⟩
  · skip
    have h3 := f_dec h1
    refine a_exit ?_
    show A _ _ _ _ _ _ _
    refine a_rseq ?_
    refine rg_bstr (s := (chP x k)) (u := v) bstr30 rfl rfl rfl rfl rfl Tryd.func27 nm27 rfl rfl rfl (.inl rfl) ?_
    refine rg_put (d := 2) (v := .d (.fl (.string (chP x k)))) rfl (og rfl (op_assign rfl rfl rfl)) ?_
    refine rg_done rfl ?_
    refine a_ret ?_
    show ∃ ds, ResL _ _ _ ds ∧ RV.of ds = _
    refine ⟨[.fl (.string (chP x k))], (.cons (.tmp rfl (.d _)) .nil), ?_⟩
    have hkl : k = x.lines.length := by omega
    subst hkl
    rfl
set_option maxHeartbeats 4000000 in
set_option maxRecDepth 100000 in
theorem chg12 (x : Cg) (hx : OkC x) : Ctr Tryd.prog 10 [.ag (eCg x)] (.d (.fl (.string (chg x)))) := by
  have q1 := hx.key
  have q2 := hx.veh
  have q3 := hx.sys
  have q0 := hx.ln
  refine ctr (n := 51) (rs := #[.tmp 2]) (L := [(0, .d (.ag (eCg x)))]) Tryd.func10 rfl rfl rfl rfl rfl (fun w0 U0 => ?_)
  refine a_rseq ?_
  refine rg_nam (d := 1) (v := .pt 101 0) (m := 101) (nw := [(101, .bx 24 (eCg x))]) rfl (og rfl (of_eff (op_box 101 rfl rfl rfl rfl) rfl)) rfl ?_
  refine rg_put (d := 2) (v := .d (.fl (.string (⟨#[]⟩)))) rfl (og rfl (op_assign rfl rfl rfl)) ?_
  refine rg_done rfl ?_
  refine a_dseq (by kernel_rfl) ?_
  refine dr_put (d := 5) (v := .pt 101 0) rfl (og rfl (of_eff (s_field_pt rfl Tryd.underlying24 rfl ti9 rfl rfl rfl) rfl)) ?_
  refine dr_put (d := 6) (v := .d (.fl (.string x.key))) rfl (og rfl (op_load_pt rfl Tryd.underlying9 rfl rfl rfl rfl rfl)) ?_
  refine dr_put (d := 7) (v := .d (.fl (.string (es x.key)))) rfl (og rfl (op_call rfl Tryd.func29 nm29 rfl (.cons rfl (.d _) .nil) (es32 x.key (by omega)) rfl)) ?_
  refine dr_put (d := 8) (v := .pt 101 1) rfl (og rfl (of_eff (s_field_pt rfl Tryd.underlying24 rfl ti9 rfl rfl rfl) rfl)) ?_
  refine dr_put (d := 9) (v := .d (.fl (.string x.veh))) rfl (og rfl (op_load_pt rfl Tryd.underlying9 rfl rfl rfl rfl rfl)) ?_
  refine dr_put (d := 10) (v := .d (.fl (.string (es x.veh)))) rfl (og rfl (op_call rfl Tryd.func29 nm29 rfl (.cons rfl (.d _) .nil) (es32 x.veh (by omega)) rfl)) ?_
  refine dr_put (d := 11) (v := .pt 101 2) rfl (og rfl (of_eff (s_field_pt rfl Tryd.underlying24 rfl ti9 rfl rfl rfl) rfl)) ?_
  refine dr_put (d := 12) (v := .d (.fl (.string x.sys))) rfl (og rfl (op_load_pt rfl Tryd.underlying9 rfl rfl rfl rfl rfl)) ?_
  refine dr_put (d := 13) (v := .d (.fl (.string (es x.sys)))) rfl (og rfl (op_call rfl Tryd.func29 nm29 rfl (.cons rfl (.d _) .nil) (es32 x.sys (by omega)) rfl)) ?_
  refine dr_put (d := 14) (v := .pt 101 3) rfl (og rfl (of_eff (s_field_pt rfl Tryd.underlying24 rfl ti3 rfl rfl rfl) rfl)) ?_
  refine dr_put (d := 15) (v := .d (.fl (.int .i64 x.cls))) rfl (og rfl (op_load_pt rfl Tryd.underlying3 rfl rfl rfl rfl rfl)) ?_
  refine dr_put (d := 16) (v := .d (.fl (.string (fm x.cls)))) rfl (og rfl (op_call rfl Tryd.func30 nm30 rfl (.cons rfl (.d _) .nil) (fm33 x.cls hx.cls) rfl)) ?_
  refine dr_put (d := 17) (v := .pt 101 4) rfl (og rfl (of_eff (s_field_pt rfl Tryd.underlying24 rfl ti3 rfl rfl rfl) rfl)) ?_
  refine dr_put (d := 18) (v := .d (.fl (.int .i64 x.time))) rfl (og rfl (op_load_pt rfl Tryd.underlying3 rfl rfl rfl rfl rfl)) ?_
  refine dr_put (d := 19) (v := .d (.fl (.string (fm x.time)))) rfl (og rfl (op_call rfl Tryd.func30 nm30 rfl (.cons rfl (.d _) .nil) (fm33 x.time hx.time) rfl)) ?_
  refine dr_put (d := 20) (v := .pt 101 6) rfl (og rfl (of_eff (s_field_pt rfl Tryd.underlying24 rfl ti3 rfl rfl rfl) rfl)) ?_
  refine dr_put (d := 21) (v := .d (.fl (.int .i64 x.cents))) rfl (og rfl (op_load_pt rfl Tryd.underlying3 rfl rfl rfl rfl rfl)) ?_
  refine dr_put (d := 22) (v := .d (.fl (.string (sh x.cents)))) rfl (og rfl (op_call rfl Tryd.func31 nm31 rfl (.cons rfl (.d _) .nil) (sh34 x.cents hx.cents) rfl)) ?_
  refine dr_put (d := 23) (v := .d (.sl 1 (List.map rS ([⟨#[99, 104, 97, 114, 103, 101]⟩, (es x.key), (es x.veh), (es x.sys), (fm x.cls), (fm x.time), (sh x.cents)])))) rfl (og rfl (of_eff (op_slices rfl Tryd.underlying98 ti9 rfl rfl rfl (by kernel_rfl) (xs := [.fl (.string (⟨#[99, 104, 97, 114, 103, 101]⟩)), .fl (.string (es x.key)), .fl (.string (es x.veh)), .fl (.string (es x.sys)), .fl (.string (fm x.cls)), .fl (.string (fm x.time)), .fl (.string (sh x.cents))]) rfl rfl (.cons rfl rfl (.d _) rfl rfl rfl (.cons rfl rfl (.d _) rfl rfl rfl (.cons rfl rfl (.d _) rfl rfl rfl (.cons rfl rfl (.d _) rfl rfl rfl (.cons rfl rfl (.d _) rfl rfl rfl (.cons rfl rfl (.d _) rfl rfl rfl (.cons rfl rfl (.d _) rfl rfl rfl .nil))))))) rfl) rfl)) ?_
  refine dr_put (d := 24) (v := .d (.fl (.string ((ln ([⟨#[99, 104, 97, 114, 103, 101]⟩, (es x.key), (es x.veh), (es x.sys), (fm x.cls), (fm x.time), (sh x.cents)])))))) rfl (og rfl (op_call rfl Tryd.func28 nm28 rfl (.cons rfl (.d _) .nil) (ln31 ([⟨#[99, 104, 97, 114, 103, 101]⟩, (es x.key), (es x.veh), (es x.sys), (fm x.cls), (fm x.time), (sh x.cents)]) (cX_jn hx)) rfl)) ?_
  refine dr_put (d := 3) (v := .d (.fl (.string ((ln ([⟨#[99, 104, 97, 114, 103, 101]⟩, (es x.key), (es x.veh), (es x.sys), (fm x.cls), (fm x.time), (sh x.cents)])))))) rfl (og rfl (op_assign rfl rfl rfl)) ?_
  refine dr_done rfl (sepB_of [0, 1, 3, 0, 8, 31, 0, 64, 255, 0, 512, 2047, 0, 4096, 16383, 0, 32768, 131071, 262143, 524287, 1048575] (by kernel_rfl)) (by kernel_rfl) ?_
  refine a_seq ?_
  refine a_rseq ?_
  refine rg_put (d := 4) (v := .d (.fl (.int .i64 0))) rfl (og rfl (op_assign rfl rfl rfl)) ?_
  refine rg_done rfl ?_
  refine a_block ?_
  refine a_loop (ι := Nat) (fun k => SS [(0, .d (.ag (eCg x))), (1, .pt 101 0), (2, .d (.fl (.string (⟨#[]⟩)))), (4, .d (.fl (.int .i64 (k : Int)))), (3, .d (.fl (.string (chP x k))))] [(101, .bx 24 (eCg x))]) (fun k => k ≤ x.lines.length) (fun k => x.lines.length - k) 0 (by omega) (imp_forget rfl ⟨rfl, rfl, rfl, (by first | rfl | exact ci (by omega) | exact ci (by simp) | exact cd (by simp) | simp), (congrArg (fun z => AV.d (.fl (.string z))) (chP_zr x)), trivial⟩ ⟨rfl, trivial⟩) (fun k hok => ?_)
  have hk := hok
  have hps := chP_size hx k hk
  refine a_seq ?_
  refine a_rseq ?_
  refine rg_put (d := 25) (v := .d (.fl (.int .i64 (k : Int)))) rfl (og rfl (op_move rfl rfl rfl)) ?_
  refine rg_put (d := 26) (v := .pt 101 5) rfl (og rfl (of_eff (s_field_pt rfl Tryd.underlying24 rfl ti22 rfl rfl rfl) rfl)) ?_
  refine rg_put (d := 27) (v := .d (.sl 2 (List.map eLn x.lines))) rfl (og rfl (op_load_pt rfl Tryd.underlying22 rfl rfl rfl rfl rfl)) ?_
  refine rg_put (d := 28) (v := .d (.fl (.int .i64 (x.lines.length : Int)))) rfl (og rfl (s_len rfl Tryd.underlying22 rfl rfl)) ?_
  refine rg_put (d := 29) (v := .d (.fl (.bool ((decide ((k : Int) < (x.lines.length : Int))))))) rfl (og rfl (op_bin rfl rfl rfl (b_lss _ _ _ _) rfl)) ?_
  refine rg_done rfl ?_
  refine a_cond rfl (fun h1 => ?_) (fun h1 => ?_)
  · skip
    have h2 := t_dec h1
    refine a_skip ?_
    show A _ _ _ _ _ _ _
    refine a_seq ?_
    refine a_block ?_
    refine a_draw (by kernel_rfl) ?_
    have hli := hx.li k (by omega)
    have q4 := hli.1
    refine dr_put (d := 32) (v := .d (.fl (.string (chP x k)))) rfl (og rfl (op_move rfl rfl rfl)) ?_
    refine dr_put (d := 33) (v := .pt 101 5) rfl (og rfl (of_eff (s_field_pt rfl Tryd.underlying24 rfl ti22 rfl rfl rfl) rfl)) ?_
    refine dr_put (d := 34) (v := .d (.sl 2 (List.map eLn x.lines))) rfl (og rfl (op_load_pt rfl Tryd.underlying22 rfl rfl rfl rfl rfl)) ?_
    refine dr_put (d := 35) (v := .d (.fl (.int .i64 (k : Int)))) rfl (og rfl (op_move rfl rfl rfl)) ?_
    refine dr_put (d := 36) (v := .el ((eLn (ix x.lines k)))) rfl (og rfl (s_index rfl Tryd.underlying22 ti84 rfl rfl (by omega) (row_at (by omega)) rfl)) ?_
    refine dr_put (d := 37) (v := .el ((List.drop 1 ((eLn (ix x.lines k)))))) rfl (og rfl (of_eff (s_field_el rfl Tryd.underlying84 rfl ti3 rfl rfl rfl) rfl)) ?_
    refine dr_put (d := 38) (v := .d (.fl (.int .i64 ((ix x.lines k).cents)))) rfl (og rfl (op_load_el rfl Tryd.underlying3 rfl rfl rfl rfl)) ?_
    refine dr_put (d := 39) (v := .d (.fl (.string ((sh ((ix x.lines k).cents)))))) rfl (og rfl (op_call rfl Tryd.func31 nm31 rfl (.cons rfl (.d _) .nil) (sh34 ((ix x.lines k).cents) hli.2) rfl)) ?_
    refine dr_put (d := 40) (v := .pt 101 5) rfl (og rfl (of_eff (s_field_pt rfl Tryd.underlying24 rfl ti22 rfl rfl rfl) rfl)) ?_
    refine dr_put (d := 41) (v := .d (.sl 2 (List.map eLn x.lines))) rfl (og rfl (op_load_pt rfl Tryd.underlying22 rfl rfl rfl rfl rfl)) ?_
    refine dr_put (d := 42) (v := .d (.fl (.int .i64 (k : Int)))) rfl (og rfl (op_move rfl rfl rfl)) ?_
    refine dr_put (d := 43) (v := .el ((eLn (ix x.lines k)))) rfl (og rfl (s_index rfl Tryd.underlying22 ti84 rfl rfl (by omega) (row_at (by omega)) rfl)) ?_
    refine dr_put (d := 44) (v := .el ((List.drop 0 ((eLn (ix x.lines k)))))) rfl (og rfl (of_eff (s_field_el rfl Tryd.underlying84 rfl ti9 rfl rfl rfl) rfl)) ?_
    refine dr_put (d := 45) (v := .d (.fl (.string ((ix x.lines k).text)))) rfl (og rfl (op_load_el rfl Tryd.underlying9 rfl rfl rfl rfl)) ?_
    refine dr_put (d := 46) (v := .d (.fl (.string ((es ((ix x.lines k).text)))))) rfl (og rfl (op_call rfl Tryd.func29 nm29 rfl (.cons rfl (.d _) .nil) (es32 ((ix x.lines k).text) (by omega)) rfl)) ?_
    refine dr_put (d := 47) (v := .d (.sl 1 (List.map rS ([⟨#[108, 105, 110, 101]⟩, (sh ((ix x.lines k).cents)), (es ((ix x.lines k).text))])))) rfl (og rfl (of_eff (op_slices rfl Tryd.underlying98 ti9 rfl rfl rfl (by kernel_rfl) (xs := [.fl (.string (⟨#[108, 105, 110, 101]⟩)), .fl (.string ((sh ((ix x.lines k).cents)))), .fl (.string ((es ((ix x.lines k).text))))]) rfl rfl (.cons rfl rfl (.d _) rfl rfl rfl (.cons rfl rfl (.d _) rfl rfl rfl (.cons rfl rfl (.d _) rfl rfl rfl .nil))) rfl) rfl)) ?_
    refine dr_put (d := 48) (v := .d (.fl (.string ((ln ([⟨#[108, 105, 110, 101]⟩, (sh ((ix x.lines k).cents)), (es ((ix x.lines k).text))])))))) rfl (og rfl (op_call rfl Tryd.func28 nm28 rfl (.cons rfl (.d _) .nil) (ln31 ([⟨#[108, 105, 110, 101]⟩, (sh ((ix x.lines k).cents)), (es ((ix x.lines k).text))]) (lX_jn hli)) rfl)) ?_
    refine dr_put (d := 49) (v := .d (.fl (.string (((chP x k) ++ ((ln ([⟨#[108, 105, 110, 101]⟩, (sh ((ix x.lines k).cents)), (es ((ix x.lines k).text))])))))))) rfl (og rfl (op_bin rfl rfl rfl (fun ox oy ow => b_sadd _ _ _ ox oy ow (by have h1 := lX_ln hli; omega)) rfl)) ?_
    refine dr_put (d := 3) (v := .d (.fl (.string (((chP x k) ++ ((ln ([⟨#[108, 105, 110, 101]⟩, (sh ((ix x.lines k).cents)), (es ((ix x.lines k).text))])))))))) rfl (og rfl (op_assign rfl rfl rfl)) ?_
    refine dr_done rfl (sepB_of [0, 0, 2, 0, 14, 30, 62, 126, 0, 256, 0, 1792, 3840, 7936, 16382, 32766, 65534, 131071, 262143] (by kernel_rfl)) (by kernel_rfl) ?_
    show A _ _ _ _ _ _ _
    refine a_region ?_
    refine rg_put (d := 30) (v := .d (.fl (.int .i64 (k : Int)))) rfl (og rfl (op_move rfl rfl rfl)) ?_
    refine rg_put (d := 31) (v := .d (.fl (.int .i64 (((k : Int) + 1))))) rfl (og rfl (op_bin rfl rfl rfl (fun x y w => b_add64 _ _ _ x y w (by omega)) rfl)) ?_
    refine rg_put (d := 4) (v := .d (.fl (.int .i64 (((k : Int) + 1))))) rfl (og rfl (op_assign rfl rfl rfl)) ?_
    refine rg_done rfl ?_
    show ∃ i, _ ∧ _ ∧ Imp _ _ _ _ _
    refine ⟨k + 1, (by omega), by omega, imp_forget rfl ⟨rfl, rfl, rfl, (by first | rfl | exact ci (by omega) | exact ci (by simp) | exact cd (by simp) | simp), (congrArg (fun z => AV.d (.fl (.string z))) (chP_step x k)), trivial⟩ ⟨rfl, trivial⟩⟩
  · skip
    have h3 := f_dec h1
    refine a_exit ?_
    show A _ _ _ _ _ _ _
    refine a_rseq ?_
    refine rg_put (d := 50) (v := .d (.fl (.string (chP x k)))) rfl (og rfl (op_move rfl rfl rfl)) ?_
    refine rg_put (d := 2) (v := .d (.fl (.string (chP x k)))) rfl (og rfl (op_assign rfl rfl rfl)) ?_
    refine rg_done rfl ?_
    refine a_ret ?_
    show ∃ ds, ResL _ _ _ ds ∧ RV.of ds = _
    refine ⟨[.fl (.string (chP x k))], (.cons (.tmp rfl (.d _)) .nil), ?_⟩
    have hkl : k = x.lines.length := by omega
    subst hkl
    rfl
end Go.Proofs.YtglhonnmppclpaaDoor.Wk
