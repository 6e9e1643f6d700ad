/- The laws of the deeds and of the plays. Conditions: strings of a possible length. -/
import Derived.Test.YtocjbombpggmeaaOp
import Derived.Test.YtocjbombpggmeaaAv20
import Derived.Test.YtocjbombpggmeaaB18
set_option linter.unusedSimpArgs false
set_option linter.unusedVariables false
namespace Go.Proofs.Ytocjbombpggmeaa.Wk
open Go Go.RowKit Go.Proofs.Ytocjbombpggmeaa.Av
theorem take_oneI {α : Type} [Inhabited α] {L : List α} {k : Nat} (h : k < L.length) : (L.drop k).take (((k : Int) + 1).toNat - k) = [ix L k] := by
  rw [show ((k : Int) + 1).toNat = k + 1 by omega]; exact take_one h
theorem Inv.hc {n : Nat} {l : List Dp} (h : Inv n l) (hn : n ≤ 61) : l.length ≤ 61 ∧ (∀ q, q < l.length → (ix l q).proofs.length ≤ 2000) ∧ (∀ q, q < l.length → 0 ≤ (ix l q).cents ∧ (ix l q).cents ≤ 1125899906842625) ∧ (∀ q, q < l.length → -68719476736 ≤ (ix l q).time ∧ (ix l q).time ≤ 137438953472) :=
  ⟨by have := h.len; omega, fun q hq => by have := h.el q hq; omega, fun q hq => by have := h.el q hq; omega, fun q hq => by have := h.el q hq; omega⟩
theorem cut_len {ds : List Dd} : (((ds.drop 0).take ((min (ds.length : Int) 60).toNat - 0))).length ≤ 60 := by
  simp; omega
theorem cut_mem {ds : List Dd} {k n : Nat} (h : k < ((ds.drop 0).take n).length) : ix ((ds.drop 0).take n) k ∈ ds :=
  List.mem_of_mem_drop (List.mem_of_mem_take (ix_mem h))
theorem cr_le (ds : List Dd) (k : Nat) : 0 ≤ cr ds k ∧ cr ds k ≤ (k : Int) * 1125899906842624 := by
  have := acc_all (pl_inv ds k)
  rwa [cr_acc] at this
theorem one_self {m : List Dp} {k : Nat} (hk : k < m.length) (hb : ∀ q, q < m.length → (ix m q).proofs.length ≤ 2000) : [ix m k].length ≤ 2000 ∧ ∀ q, q < [ix m k].length → (ix [ix m k] q).proofs.length ≤ 2000 :=
  ⟨by simp, fun q h => by have : q = 0 := (by simpa using h); subst this; exact hb k hk⟩

set_option maxHeartbeats 4000000 in
set_option maxRecDepth 100000 in
theorem law4 (l : List Dp) (d : Dd) (hz : d.key.size ≤ 9223372036854775807 ∧ d.id.size ≤ 9223372036854775807) : Ctr Try.prog 4 [.sl 5 (List.map eDp l), .ag (eDd d)] (.d (.fl (.bool true))) := by
  refine ctr (n := 44) (rs := #[.tmp 4]) (L := [(0, .d (.sl 5 (List.map eDp l))), (1, .d (.ag (eDd d)))]) Try.func4 rfl rfl rfl rfl rfl (fun w0 U0 => ?_)
  refine a_rseq ?_
  refine rg_nam (d := 3) (v := .pt 101 0) (m := 101) (nw := [(101, .bx 29 (eDd d))]) rfl (og rfl (of_eff (op_box 101 rfl rfl rfl rfl) rfl)) rfl ?_
  refine rg_put (d := 4) (v := .d (.fl (.bool false))) rfl (og rfl (op_assign rfl rfl rfl)) ?_
  refine rg_done rfl ?_
  refine a_seq ?_
  refine a_rseq ?_
  refine rg_put (d := 11) (v := .d (.sl 5 (List.map eDp l))) rfl (og rfl (op_move rfl rfl rfl)) ?_
  refine rg_put (d := 12) (v := .d (.fl (.bool (gre l)))) rfl (og rfl (op_call rfl Try.func8 nm8 rfl (.cons rfl (.d _) .nil) (great8 l) rfl)) ?_
  refine rg_done rfl ?_
  refine a_cond rfl (fun h1 => ?_) (fun h1 => ?_)
  · skip
    refine a_rseq ?_
    refine rg_put (d := 13) (v := .d (.fl (.bool true))) rfl (og rfl (op_call rfl Try.func9 nm9 rfl .nil awake_true rfl)) ?_
    refine rg_put (d := 4) (v := .d (.fl (.bool true))) rfl (og rfl (op_assign rfl rfl rfl)) ?_
    refine rg_done rfl ?_
    refine a_ret ?_
    show ∃ ds, ResL _ _ _ ds ∧ RV.of ds = _
    refine ⟨[.fl (.bool true)], (.cons (.tmp rfl (.d _)) .nil), ?_⟩
    rfl
  · skip
    refine a_skip ?_
    show A _ _ _ _ _ _ _
    refine a_rseq ?_
    obtain ⟨hl, hg⟩ := gre_f h1
    have hb : ∀ q, q < l.length → (ix l q).proofs.length ≤ 2000 := fun q h => by have := hg q h; omega
    have hc := fun q h => (hg q h).2.1
    have hw := fun q h => (hg q h).2.2
    have hbd := doe_bound d hl (fun q h => (hg q h).1)
    refine rg_put (d := 15) (v := .d (.sl 5 (List.map eDp l))) rfl (og rfl (op_move rfl rfl rfl)) ?_
    refine rg_put (d := 16) (v := .d (.ag (eDd d))) rfl (og rfl (of_eff (s_load_pts rfl Try.underlying29 rfl ti29 rfl rfl rfl rfl) rfl)) ?_
    refine rg_put (d := 17) (v := .tu [.sl 5 (List.map eDp ((doe l d).1.1)), .fl (.int .i64 ((doe l d).1.2)), .fl (.int .i64 ((doe l d).2))]) rfl (og rfl (op_call rfl Try.func12 nm12 rfl (.cons rfl (.d _) (.cons rfl (.d _) .nil)) (does12 l d  hl hb hc hw) rfl)) ?_
    refine rg_put (d := 14) (v := .tu [.sl 5 (List.map eDp ((doe l d).1.1)), .fl (.int .i64 ((doe l d).1.2)), .fl (.int .i64 ((doe l d).2))]) rfl (og rfl (op_move rfl rfl rfl)) ?_
    refine rg_put (d := 18) (v := .d (.sl 5 (List.map eDp ((doe l d).1.1)))) rfl (og rfl (op_extract rfl rfl rfl rfl)) ?_
    refine rg_put (d := 19) (v := .d (.fl (.int .i64 ((doe l d).1.2)))) rfl (og rfl (op_extract rfl rfl rfl rfl)) ?_
    refine rg_put (d := 20) (v := .d (.fl (.int .i64 ((doe l d).2)))) rfl (og rfl (op_extract rfl rfl rfl rfl)) ?_
    refine rg_put (d := 5) (v := .d (.sl 5 (List.map eDp ((doe l d).1.1)))) rfl (og rfl (op_assign rfl rfl rfl)) ?_
    refine rg_put (d := 6) (v := .d (.fl (.int .i64 ((doe l d).1.2)))) rfl (og rfl (op_assign rfl rfl rfl)) ?_
    refine rg_put (d := 7) (v := .d (.fl (.int .i64 ((doe l d).2)))) rfl (og rfl (op_assign rfl rfl rfl)) ?_
    refine rg_done rfl ?_
    refine a_rseq ?_
    refine rg_put (d := 22) (v := .d (.sl 5 (List.map eDp l))) rfl (og rfl (op_move rfl rfl rfl)) ?_
    refine rg_put (d := 23) (v := .d (.ag (eDd d))) rfl (og rfl (of_eff (s_load_pts rfl Try.underlying29 rfl ti29 rfl rfl rfl rfl) rfl)) ?_
    refine rg_put (d := 24) (v := .tu [.sl 5 (List.map eDp ((doe l d).1.1)), .fl (.int .i64 ((doe l d).1.2)), .fl (.int .i64 ((doe l d).2))]) rfl (og rfl (op_call rfl Try.func13 nm13 rfl (.cons rfl (.d _) (.cons rfl (.d _) .nil)) (wanted13 l d hz.1 hz.2 hl hb hc hw) rfl)) ?_
    refine rg_put (d := 21) (v := .tu [.sl 5 (List.map eDp ((doe l d).1.1)), .fl (.int .i64 ((doe l d).1.2)), .fl (.int .i64 ((doe l d).2))]) rfl (og rfl (op_move rfl rfl rfl)) ?_
    refine rg_put (d := 25) (v := .d (.sl 5 (List.map eDp ((doe l d).1.1)))) rfl (og rfl (op_extract rfl rfl rfl rfl)) ?_
    refine rg_put (d := 26) (v := .d (.fl (.int .i64 ((doe l d).1.2)))) rfl (og rfl (op_extract rfl rfl rfl rfl)) ?_
    refine rg_put (d := 27) (v := .d (.fl (.int .i64 ((doe l d).2)))) rfl (og rfl (op_extract rfl rfl rfl rfl)) ?_
    refine rg_put (d := 8) (v := .d (.sl 5 (List.map eDp ((doe l d).1.1)))) rfl (og rfl (op_assign rfl rfl rfl)) ?_
    refine rg_put (d := 9) (v := .d (.fl (.int .i64 ((doe l d).1.2)))) rfl (og rfl (op_assign rfl rfl rfl)) ?_
    refine rg_put (d := 10) (v := .d (.fl (.int .i64 ((doe l d).2)))) rfl (og rfl (op_assign rfl rfl rfl)) ?_
    refine rg_done rfl ?_
    refine a_rseq ?_
    refine rg_put (d := 28) (v := .d (.sl 5 (List.map eDp ((doe l d).1.1)))) rfl (og rfl (op_move rfl rfl rfl)) ?_
    refine rg_put (d := 29) (v := .d (.sl 5 (List.map eDp ((doe l d).1.1)))) rfl (og rfl (op_move rfl rfl rfl)) ?_
    refine rg_put (d := 30) (v := .d (.fl (.bool true))) rfl (og rfl (op_call rfl Try.func14 nm14 rfl (.cons rfl (.d _) (.cons rfl (.d _) .nil)) (same_self ((doe l d).1.1) (by omega) (fun q h => by have := hbd.2 q h; omega)) rfl)) ?_
    refine rg_put (d := 31) (v := .d (.fl (.bool true))) rfl (og rfl (op_move rfl rfl rfl)) ?_
    refine rg_put (d := 32) (v := .d (.fl (.int .i64 ((doe l d).1.2)))) rfl (oy rfl rfl rfl rfl (op_move rfl rfl rfl)) ?_
    refine rg_put (d := 33) (v := .d (.fl (.int .i64 ((doe l d).1.2)))) rfl (oy rfl rfl rfl rfl (op_move rfl rfl rfl)) ?_
    refine rg_put (d := 34) (v := .d (.fl (.bool (((doe l d).1.2 == (doe l d).1.2))))) rfl (oy rfl rfl rfl rfl (op_bin rfl rfl rfl (b_eql _ _ _ _) rfl)) ?_
    refine rg_put (d := 35) (v := .d (.fl (.bool (((doe l d).1.2 == (doe l d).1.2))))) rfl (og rfl (op_pick rfl rfl rfl rfl)) ?_
    refine rg_put (d := 36) (v := .d (.fl (.bool (((doe l d).1.2 == (doe l d).1.2))))) rfl (og rfl (op_move rfl rfl rfl)) ?_
    refine rg_put (d := 37) (v := .d (.fl (.int .i64 ((doe l d).2)))) rfl (oy rfl rfl rfl (eq_self_b _) (op_move rfl rfl rfl)) ?_
    refine rg_put (d := 38) (v := .d (.fl (.int .i64 ((doe l d).2)))) rfl (oy rfl rfl rfl (eq_self_b _) (op_move rfl rfl rfl)) ?_
    refine rg_put (d := 39) (v := .d (.fl (.bool (((doe l d).2 == (doe l d).2))))) rfl (oy rfl rfl rfl (eq_self_b _) (op_bin rfl rfl rfl (b_eql _ _ _ _) rfl)) ?_
    refine rg_put (d := 40) (v := .d (.fl (.bool (((doe l d).2 == (doe l d).2))))) rfl (og rfl (op_pick rfl rfl (by rw [(eq_self_b _)]; rfl) rfl)) ?_
    refine rg_put (d := 41) (v := .d (.fl (.bool (((doe l d).2 == (doe l d).2))))) rfl (og rfl (op_move rfl rfl rfl)) ?_
    refine rg_put (d := 42) (v := .d (.fl (.bool true))) rfl (oy rfl rfl rfl (eq_self_b _) (op_call rfl Try.func9 nm9 rfl .nil awake_true rfl)) ?_
    refine rg_put (d := 43) (v := .d (.fl (.bool true))) rfl (og rfl (op_pick rfl rfl (by rw [(eq_self_b _)]; rfl) rfl)) ?_
    refine rg_put (d := 4) (v := .d (.fl (.bool true))) rfl (og rfl (op_assign rfl rfl rfl)) ?_
    refine rg_done rfl ?_
    refine a_ret ?_
    show ∃ ds, ResL _ _ _ ds ∧ RV.of ds = _
    refine ⟨[.fl (.bool true)], (.cons (.tmp rfl (.d _)) .nil), ?_⟩
    rfl
set_option maxHeartbeats 4000000 in
set_option maxRecDepth 100000 in
theorem law5 (ds : List Dd) (hzs : ∀ a ∈ ds, a.key.size ≤ 9223372036854775807 ∧ a.id.size ≤ 9223372036854775807) : Ctr Try.prog 5 [.sl 6 (List.map eDd ds)] (.d (.fl (.bool true))) := by
  refine ctr (n := 51) (rs := #[.tmp 2]) (L := [(0, .d (.sl 6 (List.map eDd ds)))]) Try.func5 rfl rfl rfl rfl rfl (fun w0 U0 => ?_)
  refine a_rseq ?_
  refine rg_put (d := 2) (v := .d (.fl (.bool false))) rfl (og rfl (op_assign rfl rfl rfl)) ?_
  refine rg_done rfl ?_
  refine a_rseq ?_
  refine rg_put (d := 3) (v := .d (.fl (.slice none 0 0))) rfl (og rfl (op_assign rfl rfl rfl)) ?_
  refine rg_put (d := 4) (v := .d (.fl (.slice none 0 0))) rfl (og rfl (op_assign rfl rfl rfl)) ?_
  refine rg_done rfl ?_
  refine a_seq ?_
  refine a_rseq ?_
  refine rg_imp (imp_nilT 3 101 40 5 rfl rfl) ?_
  refine rg_imp (imp_leakE 3 101 (rows' := List.map eDp ([] : List Dp)) rfl rfl (fun r h => by cases h) rfl) ?_
  refine rg_imp (imp_nilT 4 102 40 5 rfl rfl) ?_
  refine rg_imp (imp_leakE 4 102 (rows' := List.map eDp ([] : List Dp)) rfl rfl (fun r h => by cases h) rfl) ?_
  refine rg_put (d := 11) (v := .d (.sl 6 (List.map eDd ds))) rfl (og rfl (op_move rfl rfl rfl)) ?_
  refine rg_put (d := 12) (v := .d (.sl 6 (List.map eDd ds))) rfl (og rfl (op_move rfl rfl rfl)) ?_
  refine rg_put (d := 13) (v := .d (.fl (.int .i64 (ds.length : Int)))) rfl (og rfl (s_len rfl Try.underlying36 rfl rfl)) ?_
  refine rg_put (d := 14) (v := .d (.fl (.int .i64 ((min (ds.length : Int) 60))))) rfl (og rfl (op_min rfl rfl rfl rfl)) ?_
  refine rg_put (d := 15) (v := .d (.sl 6 (List.map eDd (((ds.drop 0).take (((min (ds.length : Int) 60)).toNat - 0)))))) rfl (og rfl (s_slice rfl Try.underlying36 ti29 rfl (.no _) (.so (n := ((min (ds.length : Int) 60)).toNat) _ rfl (by omega)) (by omega) (by omega) rfl)) ?_
  refine rg_put (d := 16) (v := .d (.fl (.int .i64 (((((ds.drop 0).take (((min (ds.length : Int) 60)).toNat - 0))).length : Int))))) rfl (og rfl (s_len rfl Try.underlying36 rfl rfl)) ?_
  refine rg_put (d := 17) (v := .d (.fl (.int .i64 0))) rfl (og rfl (op_move rfl rfl rfl)) ?_
  refine rg_done rfl ?_
  refine a_block ?_
  refine a_loop (ι := Nat) (fun k => SS [(0, .d (.sl 6 (List.map eDd ds))), (15, .d (.sl 6 (List.map eDd (((ds.drop 0).take (((min (ds.length : Int) 60)).toNat - 0)))))), (16, .d (.fl (.int .i64 (((((ds.drop 0).take (((min (ds.length : Int) 60)).toNat - 0))).length : Int))))), (3, .d (.sl 5 (List.map eDp ((pl ((ds.drop 0).take ((min (ds.length : Int) 60).toNat - 0)) k))))), (4, .d (.sl 5 (List.map eDp ((pl ((ds.drop 0).take ((min (ds.length : Int) 60).toNat - 0)) k))))), (17, .d (.fl (.int .i64 (k : Int))))] []) (fun k => k ≤ ((ds.drop 0).take ((min (ds.length : Int) 60).toNat - 0)).length) (fun k => ((ds.drop 0).take ((min (ds.length : Int) 60).toNat - 0)).length - k) 0 (by omega) (imp_forget rfl ⟨rfl, rfl, rfl, (by first | rfl | exact ci (by omega) | exact ci (by simp) | exact cd (by simp) | simp), (by first | rfl | exact ci (by omega) | exact ci (by simp) | exact cd (by simp) | simp), (by first | rfl | exact ci (by omega) | exact ci (by simp) | exact cd (by simp) | simp), trivial⟩ trivial) (fun k hok => ?_)
  have hk := hok
  have hE := cut_len (ds := ds)
  obtain ⟨hl61, hb, hc, hw⟩ := (pl_inv ((ds.drop 0).take ((min (ds.length : Int) 60).toNat - 0)) k).hc (by omega)
  have hl : (pl ((ds.drop 0).take ((min (ds.length : Int) 60).toNat - 0)) k).length ≤ 1100 := by omega
  have hv1 := (pl_inv ((ds.drop 0).take ((min (ds.length : Int) 60).toNat - 0)) (k + 1)).hc (by omega)
  have hv1 : (doe (pl ((ds.drop 0).take ((min (ds.length : Int) 60).toNat - 0)) k) (ix ((ds.drop 0).take ((min (ds.length : Int) 60).toNat - 0)) k)).1.1.length ≤ 61 ∧ (∀ q, q < (doe (pl ((ds.drop 0).take ((min (ds.length : Int) 60).toNat - 0)) k) (ix ((ds.drop 0).take ((min (ds.length : Int) 60).toNat - 0)) k)).1.1.length → (ix (doe (pl ((ds.drop 0).take ((min (ds.length : Int) 60).toNat - 0)) k) (ix ((ds.drop 0).take ((min (ds.length : Int) 60).toNat - 0)) k)).1.1 q).proofs.length ≤ 2000) := ⟨hv1.1, hv1.2.1⟩
  refine a_rseq ?_
  refine rg_put (d := 18) (v := .d (.fl (.bool ((decide ((k : Int) < ((((ds.drop 0).take (((min (ds.length : Int) 60)).toNat - 0))).length : Int))))))) rfl (og rfl (op_bin rfl rfl rfl (b_lss _ _ _ _) rfl)) ?_
  refine rg_done rfl ?_
  refine a_seq ?_
  refine a_cond rfl (fun h1 => ?_) (fun h1 => ?_)
  · skip
    have h2 := t_dec h1
    refine a_skip ?_
    show A _ _ _ _ _ _ _
    refine a_seq ?_
    refine a_block ?_
    refine a_rseq ?_
    have hz := hzs _ (cut_mem (ds := ds) (n := (min (ds.length : Int) 60).toNat - 0) (k := k) (by omega))
    refine rg_put (d := 19) (v := .el ((eDd ((ix (((ds.drop 0).take (((min (ds.length : Int) 60)).toNat - 0))) k))))) rfl (og rfl (s_index rfl Try.underlying36 ti29 rfl rfl (by omega) (row_at (by omega)) rfl)) ?_
    refine rg_put (d := 20) (v := .d (.ag (eDd (((ix (((ds.drop 0).take (((min (ds.length : Int) 60)).toNat - 0))) k)))))) rfl (og rfl (of_eff (s_load_els rfl Try.underlying29 rfl ti29 rfl rfl rfl) rfl)) ?_
    refine rg_nam (d := 6) (v := .pt 103 0) (m := 103) (nw := [(103, .bx 29 ([.fl (.int .i64 0), .fl (.string (⟨#[]⟩)), .fl (.string (⟨#[]⟩)), .fl (.int .i64 0), .fl (.int .i64 0), .fl (.bool false)]))]) rfl (og rfl (of_eff (s_alloc 103 rfl ti29 (by kernel_rfl) rfl) rfl)) rfl ?_
    refine rg_sto (nw := [(103, .bx 29 ((eDd (((ix (((ds.drop 0).take (((min (ds.length : Int) 60)).toNat - 0))) k))))))]) rfl (og rfl (of_eff (s_store rfl rfl ti29 rfl rfl rfl rfl rfl rfl) rfl)) ?_
    refine rg_done rfl ?_
    refine a_rseq ?_
    refine rg_put (d := 7) (v := .d (.fl (.int .i64 0))) rfl (og rfl (op_assign rfl rfl rfl)) ?_
    refine rg_put (d := 8) (v := .d (.fl (.int .i64 0))) rfl (og rfl (op_assign rfl rfl rfl)) ?_
    refine rg_put (d := 9) (v := .d (.fl (.int .i64 0))) rfl (og rfl (op_assign rfl rfl rfl)) ?_
    refine rg_done rfl ?_
    refine a_rseq ?_
    refine rg_put (d := 10) (v := .d (.fl (.int .i64 0))) rfl (og rfl (op_assign rfl rfl rfl)) ?_
    refine rg_done rfl ?_
    refine a_rseq ?_
    refine rg_put (d := 22) (v := .d (.sl 5 (List.map eDp ((pl ((ds.drop 0).take ((min (ds.length : Int) 60).toNat - 0)) k))))) rfl (og rfl (op_move rfl rfl rfl)) ?_
    refine rg_put (d := 23) (v := .d (.ag (eDd ((((ix (((ds.drop 0).take (((min (ds.length : Int) 60)).toNat - 0))) k))))))) rfl (og rfl (of_eff (s_load_pts rfl Try.underlying29 rfl ti29 rfl rfl rfl rfl) rfl)) ?_
    refine rg_put (d := 24) (v := .tu [.sl 5 (List.map eDp ((doe ((pl ((ds.drop 0).take ((min (ds.length : Int) 60).toNat - 0)) k)) ((((ix (((ds.drop 0).take (((min (ds.length : Int) 60)).toNat - 0))) k))))).1.1)), .fl (.int .i64 ((doe ((pl ((ds.drop 0).take ((min (ds.length : Int) 60).toNat - 0)) k)) ((((ix (((ds.drop 0).take (((min (ds.length : Int) 60)).toNat - 0))) k))))).1.2)), .fl (.int .i64 ((doe ((pl ((ds.drop 0).take ((min (ds.length : Int) 60).toNat - 0)) k)) ((((ix (((ds.drop 0).take (((min (ds.length : Int) 60)).toNat - 0))) k))))).2))]) rfl (og rfl (op_call rfl Try.func12 nm12 rfl (.cons rfl (.d _) (.cons rfl (.d _) .nil)) (does12 ((pl ((ds.drop 0).take ((min (ds.length : Int) 60).toNat - 0)) k)) ((((ix (((ds.drop 0).take (((min (ds.length : Int) 60)).toNat - 0))) k))))  hl hb hc hw) rfl)) ?_
    refine rg_put (d := 21) (v := .tu [.sl 5 (List.map eDp ((doe ((pl ((ds.drop 0).take ((min (ds.length : Int) 60).toNat - 0)) k)) ((((ix (((ds.drop 0).take (((min (ds.length : Int) 60)).toNat - 0))) k))))).1.1)), .fl (.int .i64 ((doe ((pl ((ds.drop 0).take ((min (ds.length : Int) 60).toNat - 0)) k)) ((((ix (((ds.drop 0).take (((min (ds.length : Int) 60)).toNat - 0))) k))))).1.2)), .fl (.int .i64 ((doe ((pl ((ds.drop 0).take ((min (ds.length : Int) 60).toNat - 0)) k)) ((((ix (((ds.drop 0).take (((min (ds.length : Int) 60)).toNat - 0))) k))))).2))]) rfl (og rfl (op_move rfl rfl rfl)) ?_
    refine rg_put (d := 25) (v := .d (.sl 5 (List.map eDp ((doe ((pl ((ds.drop 0).take ((min (ds.length : Int) 60).toNat - 0)) k)) ((((ix (((ds.drop 0).take (((min (ds.length : Int) 60)).toNat - 0))) k))))).1.1)))) rfl (og rfl (op_extract rfl rfl rfl rfl)) ?_
    refine rg_put (d := 26) (v := .d (.fl (.int .i64 ((doe ((pl ((ds.drop 0).take ((min (ds.length : Int) 60).toNat - 0)) k)) ((((ix (((ds.drop 0).take (((min (ds.length : Int) 60)).toNat - 0))) k))))).1.2)))) rfl (og rfl (op_extract rfl rfl rfl rfl)) ?_
    refine rg_put (d := 27) (v := .d (.fl (.int .i64 ((doe ((pl ((ds.drop 0).take ((min (ds.length : Int) 60).toNat - 0)) k)) ((((ix (((ds.drop 0).take (((min (ds.length : Int) 60)).toNat - 0))) k))))).2)))) rfl (og rfl (op_extract rfl rfl rfl rfl)) ?_
    refine rg_put (d := 3) (v := .d (.sl 5 (List.map eDp ((doe ((pl ((ds.drop 0).take ((min (ds.length : Int) 60).toNat - 0)) k)) ((((ix (((ds.drop 0).take (((min (ds.length : Int) 60)).toNat - 0))) k))))).1.1)))) rfl (og rfl (op_assign rfl rfl rfl)) ?_
    refine rg_put (d := 7) (v := .d (.fl (.int .i64 ((doe ((pl ((ds.drop 0).take ((min (ds.length : Int) 60).toNat - 0)) k)) ((((ix (((ds.drop 0).take (((min (ds.length : Int) 60)).toNat - 0))) k))))).1.2)))) rfl (og rfl (op_assign rfl rfl rfl)) ?_
    refine rg_put (d := 10) (v := .d (.fl (.int .i64 ((doe ((pl ((ds.drop 0).take ((min (ds.length : Int) 60).toNat - 0)) k)) ((((ix (((ds.drop 0).take (((min (ds.length : Int) 60)).toNat - 0))) k))))).2)))) rfl (og rfl (op_assign rfl rfl rfl)) ?_
    refine rg_done rfl ?_
    refine a_rseq ?_
    refine rg_put (d := 29) (v := .d (.sl 5 (List.map eDp ((pl ((ds.drop 0).take ((min (ds.length : Int) 60).toNat - 0)) k))))) rfl (og rfl (op_move rfl rfl rfl)) ?_
    refine rg_put (d := 30) (v := .d (.ag (eDd ((((ix (((ds.drop 0).take (((min (ds.length : Int) 60)).toNat - 0))) k))))))) rfl (og rfl (of_eff (s_load_pts rfl Try.underlying29 rfl ti29 rfl rfl rfl rfl) rfl)) ?_
    refine rg_put (d := 31) (v := .tu [.sl 5 (List.map eDp ((doe ((pl ((ds.drop 0).take ((min (ds.length : Int) 60).toNat - 0)) k)) ((((ix (((ds.drop 0).take (((min (ds.length : Int) 60)).toNat - 0))) k))))).1.1)), .fl (.int .i64 ((doe ((pl ((ds.drop 0).take ((min (ds.length : Int) 60).toNat - 0)) k)) ((((ix (((ds.drop 0).take (((min (ds.length : Int) 60)).toNat - 0))) k))))).1.2)), .fl (.int .i64 ((doe ((pl ((ds.drop 0).take ((min (ds.length : Int) 60).toNat - 0)) k)) ((((ix (((ds.drop 0).take (((min (ds.length : Int) 60)).toNat - 0))) k))))).2))]) rfl (og rfl (op_call rfl Try.func13 nm13 rfl (.cons rfl (.d _) (.cons rfl (.d _) .nil)) (wanted13 ((pl ((ds.drop 0).take ((min (ds.length : Int) 60).toNat - 0)) k)) ((((ix (((ds.drop 0).take (((min (ds.length : Int) 60)).toNat - 0))) k)))) hz.1 hz.2 hl hb hc hw) rfl)) ?_
    refine rg_put (d := 28) (v := .tu [.sl 5 (List.map eDp ((doe ((pl ((ds.drop 0).take ((min (ds.length : Int) 60).toNat - 0)) k)) ((((ix (((ds.drop 0).take (((min (ds.length : Int) 60)).toNat - 0))) k))))).1.1)), .fl (.int .i64 ((doe ((pl ((ds.drop 0).take ((min (ds.length : Int) 60).toNat - 0)) k)) ((((ix (((ds.drop 0).take (((min (ds.length : Int) 60)).toNat - 0))) k))))).1.2)), .fl (.int .i64 ((doe ((pl ((ds.drop 0).take ((min (ds.length : Int) 60).toNat - 0)) k)) ((((ix (((ds.drop 0).take (((min (ds.length : Int) 60)).toNat - 0))) k))))).2))]) rfl (og rfl (op_move rfl rfl rfl)) ?_
    refine rg_put (d := 32) (v := .d (.sl 5 (List.map eDp ((doe ((pl ((ds.drop 0).take ((min (ds.length : Int) 60).toNat - 0)) k)) ((((ix (((ds.drop 0).take (((min (ds.length : Int) 60)).toNat - 0))) k))))).1.1)))) rfl (og rfl (op_extract rfl rfl rfl rfl)) ?_
    refine rg_put (d := 33) (v := .d (.fl (.int .i64 ((doe ((pl ((ds.drop 0).take ((min (ds.length : Int) 60).toNat - 0)) k)) ((((ix (((ds.drop 0).take (((min (ds.length : Int) 60)).toNat - 0))) k))))).1.2)))) rfl (og rfl (op_extract rfl rfl rfl rfl)) ?_
    refine rg_put (d := 34) (v := .d (.fl (.int .i64 ((doe ((pl ((ds.drop 0).take ((min (ds.length : Int) 60).toNat - 0)) k)) ((((ix (((ds.drop 0).take (((min (ds.length : Int) 60)).toNat - 0))) k))))).2)))) rfl (og rfl (op_extract rfl rfl rfl rfl)) ?_
    refine rg_put (d := 4) (v := .d (.sl 5 (List.map eDp ((doe ((pl ((ds.drop 0).take ((min (ds.length : Int) 60).toNat - 0)) k)) ((((ix (((ds.drop 0).take (((min (ds.length : Int) 60)).toNat - 0))) k))))).1.1)))) rfl (og rfl (op_assign rfl rfl rfl)) ?_
    refine rg_put (d := 8) (v := .d (.fl (.int .i64 ((doe ((pl ((ds.drop 0).take ((min (ds.length : Int) 60).toNat - 0)) k)) ((((ix (((ds.drop 0).take (((min (ds.length : Int) 60)).toNat - 0))) k))))).1.2)))) rfl (og rfl (op_assign rfl rfl rfl)) ?_
    refine rg_put (d := 9) (v := .d (.fl (.int .i64 ((doe ((pl ((ds.drop 0).take ((min (ds.length : Int) 60).toNat - 0)) k)) ((((ix (((ds.drop 0).take (((min (ds.length : Int) 60)).toNat - 0))) k))))).2)))) rfl (og rfl (op_assign rfl rfl rfl)) ?_
    refine rg_done rfl ?_
    refine a_rseq ?_
    refine rg_put (d := 35) (v := .d (.sl 5 (List.map eDp ((doe ((pl ((ds.drop 0).take ((min (ds.length : Int) 60).toNat - 0)) k)) ((((ix (((ds.drop 0).take (((min (ds.length : Int) 60)).toNat - 0))) k))))).1.1)))) rfl (og rfl (op_move rfl rfl rfl)) ?_
    refine rg_put (d := 36) (v := .d (.sl 5 (List.map eDp ((doe ((pl ((ds.drop 0).take ((min (ds.length : Int) 60).toNat - 0)) k)) ((((ix (((ds.drop 0).take (((min (ds.length : Int) 60)).toNat - 0))) k))))).1.1)))) rfl (og rfl (op_move rfl rfl rfl)) ?_
    refine rg_put (d := 37) (v := .d (.fl (.bool true))) rfl (og rfl (op_call rfl Try.func14 nm14 rfl (.cons rfl (.d _) (.cons rfl (.d _) .nil)) (same_self ((doe ((pl ((ds.drop 0).take ((min (ds.length : Int) 60).toNat - 0)) k)) ((((ix (((ds.drop 0).take (((min (ds.length : Int) 60)).toNat - 0))) k))))).1.1) (by omega) (fun q h => hv1.2 q h)) rfl)) ?_
    refine rg_put (d := 38) (v := .d (.fl (.bool (!true)))) rfl (og rfl (op_un rfl rfl (u_not _) rfl)) ?_
    refine rg_put (d := 39) (v := .d (.fl (.bool (!true)))) rfl (og rfl (op_move rfl rfl rfl)) ?_
    refine rg_put (d := 40) (v := .d (.fl (.int .i64 ((doe ((pl ((ds.drop 0).take ((min (ds.length : Int) 60).toNat - 0)) k)) ((((ix (((ds.drop 0).take (((min (ds.length : Int) 60)).toNat - 0))) k))))).1.2)))) rfl (oy rfl rfl rfl (not_f rfl) (op_move rfl rfl rfl)) ?_
    refine rg_put (d := 41) (v := .d (.fl (.int .i64 ((doe ((pl ((ds.drop 0).take ((min (ds.length : Int) 60).toNat - 0)) k)) ((((ix (((ds.drop 0).take (((min (ds.length : Int) 60)).toNat - 0))) k))))).1.2)))) rfl (oy rfl rfl rfl (not_f rfl) (op_move rfl rfl rfl)) ?_
    refine rg_put (d := 42) (v := .d (.fl (.bool (((doe ((pl ((ds.drop 0).take ((min (ds.length : Int) 60).toNat - 0)) k)) ((((ix (((ds.drop 0).take (((min (ds.length : Int) 60)).toNat - 0))) k))))).1.2 != (doe ((pl ((ds.drop 0).take ((min (ds.length : Int) 60).toNat - 0)) k)) ((((ix (((ds.drop 0).take (((min (ds.length : Int) 60)).toNat - 0))) k))))).1.2))))) rfl (oy rfl rfl rfl (not_f rfl) (op_bin rfl rfl rfl (b_neq _ _ _ _) rfl)) ?_
    refine rg_put (d := 43) (v := .d (.fl (.bool (((doe ((pl ((ds.drop 0).take ((min (ds.length : Int) 60).toNat - 0)) k)) ((((ix (((ds.drop 0).take (((min (ds.length : Int) 60)).toNat - 0))) k))))).1.2 != (doe ((pl ((ds.drop 0).take ((min (ds.length : Int) 60).toNat - 0)) k)) ((((ix (((ds.drop 0).take (((min (ds.length : Int) 60)).toNat - 0))) k))))).1.2))))) rfl (og rfl (op_pick rfl rfl (by rw [(not_f rfl)]; rfl) rfl)) ?_
    refine rg_put (d := 44) (v := .d (.fl (.bool (((doe ((pl ((ds.drop 0).take ((min (ds.length : Int) 60).toNat - 0)) k)) ((((ix (((ds.drop 0).take (((min (ds.length : Int) 60)).toNat - 0))) k))))).1.2 != (doe ((pl ((ds.drop 0).take ((min (ds.length : Int) 60).toNat - 0)) k)) ((((ix (((ds.drop 0).take (((min (ds.length : Int) 60)).toNat - 0))) k))))).1.2))))) rfl (og rfl (op_move rfl rfl rfl)) ?_
    refine rg_put (d := 45) (v := .d (.fl (.int .i64 ((doe ((pl ((ds.drop 0).take ((min (ds.length : Int) 60).toNat - 0)) k)) ((((ix (((ds.drop 0).take (((min (ds.length : Int) 60)).toNat - 0))) k))))).2)))) rfl (oy rfl rfl rfl (ne_self_b _) (op_move rfl rfl rfl)) ?_
    refine rg_put (d := 46) (v := .d (.fl (.int .i64 ((doe ((pl ((ds.drop 0).take ((min (ds.length : Int) 60).toNat - 0)) k)) ((((ix (((ds.drop 0).take (((min (ds.length : Int) 60)).toNat - 0))) k))))).2)))) rfl (oy rfl rfl rfl (ne_self_b _) (op_move rfl rfl rfl)) ?_
    refine rg_put (d := 47) (v := .d (.fl (.bool (((doe ((pl ((ds.drop 0).take ((min (ds.length : Int) 60).toNat - 0)) k)) ((((ix (((ds.drop 0).take (((min (ds.length : Int) 60)).toNat - 0))) k))))).2 != (doe ((pl ((ds.drop 0).take ((min (ds.length : Int) 60).toNat - 0)) k)) ((((ix (((ds.drop 0).take (((min (ds.length : Int) 60)).toNat - 0))) k))))).2))))) rfl (oy rfl rfl rfl (ne_self_b _) (op_bin rfl rfl rfl (b_neq _ _ _ _) rfl)) ?_
    refine rg_put (d := 48) (v := .d (.fl (.bool (((doe ((pl ((ds.drop 0).take ((min (ds.length : Int) 60).toNat - 0)) k)) ((((ix (((ds.drop 0).take (((min (ds.length : Int) 60)).toNat - 0))) k))))).2 != (doe ((pl ((ds.drop 0).take ((min (ds.length : Int) 60).toNat - 0)) k)) ((((ix (((ds.drop 0).take (((min (ds.length : Int) 60)).toNat - 0))) k))))).2))))) rfl (og rfl (op_pick rfl rfl (by rw [(ne_self_b _)]; rfl) rfl)) ?_
    refine rg_done rfl ?_
    refine a_condF rfl (ne_self_b _) ?_
    refine a_skip ?_
    show A _ _ _ _ _ _ _
    refine a_region ?_
    refine rg_put (d := 49) (v := .d (.fl (.int .i64 (((k : Int) + 1))))) rfl (og rfl (op_bin rfl rfl rfl (fun x y w => b_add64 _ _ _ x y w (by omega)) rfl)) ?_
    refine rg_put (d := 17) (v := .d (.fl (.int .i64 (((k : Int) + 1))))) rfl (og rfl (op_move rfl rfl rfl)) ?_
    refine rg_done rfl ?_
    show ∃ i, _ ∧ _ ∧ Imp _ _ _ _ _
    refine ⟨k + 1, (by omega), by omega, imp_forget rfl ⟨rfl, rfl, rfl, (by first | rfl | exact ci (by omega) | exact ci (by simp) | exact cd (by simp) | simp), (by first | rfl | exact ci (by omega) | exact ci (by simp) | exact cd (by simp) | simp), (by first | rfl | exact ci (by omega) | exact ci (by simp) | exact cd (by simp) | simp), trivial⟩ trivial⟩
  · skip
    have h3 := f_dec h1
    refine a_exit ?_
    show A _ _ _ _ _ _ _
    refine a_rseq ?_
    refine rg_put (d := 50) (v := .d (.fl (.bool true))) rfl (og rfl (op_call rfl Try.func9 nm9 rfl .nil awake_true rfl)) ?_
    refine rg_put (d := 2) (v := .d (.fl (.bool true))) rfl (og rfl (op_assign rfl rfl rfl)) ?_
    refine rg_done rfl ?_
    refine a_ret ?_
    show ∃ ds, ResL _ _ _ ds ∧ RV.of ds = _
    refine ⟨[.fl (.bool true)], (.cons (.tmp rfl (.d _)) .nil), ?_⟩
    rfl
end Go.Proofs.Ytocjbombpggmeaa.Wk
