/- The law of the steps. No condition. -/
import Derived.Test.YtipkielpicfobaaAvS
import Derived.Test.YtipkielpicfobaaAvX
import Derived.Test.YtipkielpicfobaaAvL
import Derived.Test.YtipkielpicfobaaAvN
import Derived.Test.YtipkielpicfobaaAvQ
import Derived.Test.YtipkielpicfobaaAl13
import Derived.Test.YtipkielpicfobaaC6
set_option linter.unusedSimpArgs false
set_option linter.unusedVariables false
namespace Go.Proofs.Ytipkielpicfobaa.Wk
open Go Go.RowKit Go.Proofs.Ytipkielpicfobaa.Av
def hasB (r : List Sen) (s : Sen) : Bool := r.any fun x => eS s x
theorem has_t {r : List Sen} {s : Sen} {k : Nat} (hk : k < r.length) (h : eS s (ix r k) = true) : hasB r s = true := List.any_eq_true.2 ⟨_, ix_mem hk, h⟩
theorem has_f {r : List Sen} {s : Sen} (h : ∀ q, q < r.length → eS s (ix r q) = false) : hasB r s = false := by
  unfold hasB
  rw [List.any_eq_false]
  intro x hx
  obtain ⟨q, h1, rfl⟩ := mem_ix hx
  rw [h q h1]; decide
theorem has_mem {r : List Sen} {s : Sen} : hasB r s = true ↔ s ∈ r := by
  unfold hasB
  rw [List.any_eq_true]
  constructor
  · rintro ⟨x, hx, h⟩; rw [eS_e h]; exact hx
  · intro h; exact ⟨s, h, eS_self s⟩
def ixS (r : List Sen) (s : Sen) : Int := match r.findIdx? (fun x => eS s x) with
  | some i => i
  | none => -1
theorem ixS_at {r : List Sen} {s : Sen} {k : Nat} (hk : k < r.length) (hq : ∀ q, q < k → eS s (ix r q) = false) (h : eS s (ix r k) = true) : ixS r s = k := by
  unfold ixS
  rw [show r.findIdx? (fun x => eS s x) = some k from by
    rw [List.findIdx?_eq_some_iff_getElem]
    refine ⟨hk, by rw [ix_eq hk]; exact h, fun j hj => ?_⟩
    rw [ix_eq (by omega), hq j hj]; decide]
theorem ixS_no {r : List Sen} {s : Sen} (hq : ∀ q, q < r.length → eS s (ix r q) = false) : ixS r s = -1 := by
  unfold ixS
  rw [show r.findIdx? (fun x => eS s x) = none from by
    rw [List.findIdx?_eq_none_iff]
    intro x hx
    obtain ⟨q, h1, rfl⟩ := mem_ix hx
    exact hq q h1]
theorem ixS_has (r : List Sen) (s : Sen) : decide (0 ≤ ixS r s) = hasB r s := by
  unfold ixS hasB
  cases e : r.findIdx? (fun x => eS s x) with
  | none =>
    rw [List.findIdx?_eq_none_iff] at e
    rw [show (r.any fun x => eS s x) = false from by rw [List.any_eq_false]; intro x hx; rw [e x hx]; decide]; rfl
  | some i =>
    rw [List.findIdx?_eq_some_iff_getElem] at e
    obtain ⟨h1, h2, _⟩ := e
    rw [show (r.any fun x => eS s x) = true from List.any_eq_true.2 ⟨_, List.getElem_mem h1, h2⟩]
    exact decide_eq_true (by show (0 : Int) ≤ (i : Int); omega)
def ixF (F : List (List Sen)) (s : Sen) : Int := match F.findIdx? (fun r => hasB r s) with
  | some i => i
  | none => -1
theorem ixF_at {F : List (List Sen)} {s : Sen} {k : Nat} (hk : k < F.length) (hq : ∀ q, q < k → hasB (ix F q) s = false) (h : hasB (ix F k) s = true) : ixF F s = k := by
  unfold ixF
  rw [show F.findIdx? (fun r => hasB r s) = some k from by
    rw [List.findIdx?_eq_some_iff_getElem]
    refine ⟨hk, by rw [ix_eq hk]; exact h, fun j hj => ?_⟩
    rw [ix_eq (by omega), hq j hj]; decide]
theorem ixF_no {F : List (List Sen)} {s : Sen} (hq : ∀ q, q < F.length → hasB (ix F q) s = false) : ixF F s = -1 := by
  unfold ixF
  rw [show F.findIdx? (fun r => hasB r s) = none from by
    rw [List.findIdx?_eq_none_iff]
    intro x hx
    obtain ⟨q, h1, rfl⟩ := mem_ix hx
    exact hq q h1]
theorem ixF_ok {F : List (List Sen)} {s : Sen} (h : s ∈ F.flatten) : 0 ≤ ixF F s ∧ ixF F s < (F.length : Int) ∧ s ∈ ix F (ixF F s).toNat := by
  unfold ixF
  cases e : F.findIdx? (fun r => hasB r s) with
  | none =>
    exfalso
    rw [List.findIdx?_eq_none_iff] at e
    obtain ⟨r, hr, hs⟩ := List.mem_flatten.1 h
    have := e r hr
    rw [has_mem.2 hs] at this; cases this
  | some i =>
    rw [List.findIdx?_eq_some_iff_getElem] at e
    obtain ⟨h1, h2, _⟩ := e
    show (0 : Int) ≤ (i : Int) ∧ (i : Int) < _ ∧ s ∈ ix F ((i : Int)).toNat
    refine ⟨by omega, by omega, ?_⟩
    rw [show ((i : Int)).toNat = i by omega, ← ix_eq h1]
    exact has_mem.1 h2
theorem frm_nil (gap : Int) : frm [] gap = [] := List.length_eq_zero_iff.1 (by have := frm_len [] gap; simpa using this)
theorem ins_eq {l : List Sen} {gap : Int} {i : Nat} (h : i < l.length) : frm ((frm (l.take i) gap).flatten ++ [ix l i]) gap = frm (l.take (i + 1)) gap := by
  rw [take_ix h]
  exact frm_congr ((frm_flat _ gap).append_right _) gap
theorem ins_at {l : List Sen} {gap : Int} {i : Nat} (h : i < l.length) : 0 ≤ ixF (frm (l.take (i + 1)) gap) (ix l i) ∧ ixF (frm (l.take (i + 1)) gap) (ix l i) < ((frm (l.take (i + 1)) gap).length : Int) ∧ 0 < cnt (ix (frm (l.take (i + 1)) gap) (ixF (frm (l.take (i + 1)) gap) (ix l i)).toNat) (ix l i) := by
  obtain ⟨a, b, c⟩ := ixF_ok (F := frm (l.take (i + 1)) gap) (s := ix l i) ((frm_flat _ gap).symm.subset (by rw [take_ix h]; simp))
  exact ⟨a, b, cnt_mem c⟩

set_option maxHeartbeats 4000000 in
set_option maxRecDepth 100000 in
theorem growZ (n : Nat) (hn : n ≤ 1000) : CtrO Try.prog 62 [.fl (.slice none 0 0), .fl (.int .i64 (n : Int))] (.tr 31 11 (tD eSen [])) := by
  refine ctrO (n := 27) (rs := #[.tmp 4]) (L := [(0, .d (.fl (.slice none 0 0))), (1, .d (.fl (.int .i64 (n : Int))))]) Try.func62 rfl rfl rfl rfl rfl (fun w0 U0 => ?_)
  refine a_rseq ?_
  refine rg_put (d := 4) (v := .d (.fl (.slice none 0 0))) rfl (og rfl (op_assign rfl rfl rfl)) ?_
  refine rg_done rfl ?_
  refine a_seq ?_
  refine a_rseq ?_
  refine rg_put (d := 5) (v := .d (.fl (.int .i64 (n : Int)))) rfl (og rfl (op_move rfl rfl rfl)) ?_
  refine rg_put (d := 6) (v := .d (.fl (.bool ((decide ((n : Int) < 0)))))) rfl (og rfl (op_bin rfl rfl rfl (b_lss _ _ _ _) rfl)) ?_
  refine rg_done rfl ?_
  refine a_condF rfl (show (decide ((n : Int) < 0)) = false from decide_eq_false (by omega)) ?_
  refine a_skip ?_
  show A _ _ _ _ _ _ _
  refine a_seq ?_
  refine a_rseq ?_
  refine rg_put (d := 8) (v := .d (.fl (.int .i64 (n : Int)))) rfl (og rfl (op_move rfl rfl rfl)) ?_
  refine rg_put (d := 9) (v := .d (.fl (.slice none 0 0))) rfl (og rfl (op_move rfl rfl rfl)) ?_
  refine rg_put (d := 10) (v := .d (.fl (.int .i64 0))) rfl (og rfl (op_cap_nil rfl Try.underlying22 rfl rfl)) ?_
  refine rg_put (d := 11) (v := .d (.fl (.slice none 0 0))) rfl (og rfl (op_move rfl rfl rfl)) ?_
  refine rg_put (d := 12) (v := .d (.fl (.int .i64 0))) rfl (og rfl (op_len_nil rfl Try.underlying22 rfl rfl)) ?_
  refine rg_put (d := 13) (v := .d (.fl (.int .i64 (0 - 0)))) rfl (og rfl (op_bin rfl rfl rfl (fun x y w => b_sub64 _ _ _ x y w (by first | omega | rfl | (simp; omega))) rfl)) ?_
  refine rg_put (d := 14) (v := .d (.fl (.int .i64 (((n : Int) - (0 - 0)))))) rfl (og rfl (op_bin rfl rfl rfl (fun x y w => b_sub64 _ _ _ x y w (by first | omega | rfl | (simp; omega))) rfl)) ?_
  refine rg_put (d := 1) (v := .d (.fl (.int .i64 (((n : Int) - (0 - 0)))))) rfl (og rfl (op_assign rfl rfl rfl)) ?_
  refine rg_done rfl ?_
  refine a_rseq ?_
  refine rg_put (d := 15) (v := .d (.fl (.int .i64 (((n : Int) - (0 - 0)))))) rfl (og rfl (op_move rfl rfl rfl)) ?_
  refine rg_put (d := 16) (v := .d (.fl (.bool ((decide (0 < ((n : Int) - (0 - 0)))))))) rfl (og rfl (op_bin rfl rfl rfl (b_gtr _ _ _ _) rfl)) ?_
  refine rg_done rfl ?_
  refine a_cond rfl (fun h1 => ?_) (fun h1 => ?_)
  · skip
    have h2 := t_dec h1
    refine a_region ?_
    refine rg_put (d := 17) (v := .d (.fl (.slice none 0 0))) rfl (og rfl (op_move rfl rfl rfl)) ?_
    refine rg_put (d := 18) (v := .d (.fl (.slice none 0 0))) rfl (og rfl (op_move rfl rfl rfl)) ?_
    refine rg_put (d := 19) (v := .d (.fl (.int .i64 0))) rfl (og rfl (op_cap_nil rfl Try.underlying22 rfl rfl)) ?_
    refine rg_put (d := 20) (v := .d (.fl (.slice none 0 0))) rfl (og rfl (op_slice_nil rfl Try.underlying22 ti31 rfl rfl rfl)) ?_
    refine rg_put (d := 21) (v := .d (.fl (.int .i64 (((n : Int) - (0 - 0)))))) rfl (og rfl (op_move rfl rfl rfl)) ?_
    refine rg_nam (d := 22) (v := .ow 101) (m := 101) (nw := [(101, .tr 31 11 (tD eSen [] ++ (tD eSen (List.replicate ((((n : Int) - (0 - 0))).toNat) (⟨⟨⟨#[]⟩, 0, 0, ⟨#[]⟩, ⟨#[]⟩, 0, 0⟩, 0, ⟨#[]⟩, 0, 0⟩ : Sen)))))]) rfl (og rfl (of_eff (op_appendZ 101 rfl Try.underlying22 Try.underlying3 ti31 rfl (n := (((n : Int) - (0 - 0))).toNat) rfl rfl (by first | omega | rfl | (simp; omega)) (by first | omega | rfl | (simp; omega)) (by first | omega | rfl | (simp; omega)) (enc := eSen) (z0 := (⟨⟨⟨#[]⟩, 0, 0, ⟨#[]⟩, ⟨#[]⟩, 0, 0⟩, 0, ⟨#[]⟩, 0, 0⟩ : Sen)) rfl rfl (List.forall_mem_cons.2 ⟨rfl, List.forall_mem_cons.2 ⟨rfl, List.forall_mem_cons.2 ⟨rfl, List.forall_mem_cons.2 ⟨rfl, List.forall_mem_cons.2 ⟨rfl, List.forall_mem_cons.2 ⟨rfl, List.forall_mem_cons.2 ⟨rfl, List.forall_mem_cons.2 ⟨rfl, List.forall_mem_cons.2 ⟨rfl, List.forall_mem_cons.2 ⟨rfl, List.forall_mem_cons.2 ⟨rfl, fun _ h => (List.not_mem_nil h).elim⟩⟩⟩⟩⟩⟩⟩⟩⟩⟩⟩) rfl) rfl)) rfl ?_
    refine rg_put (d := 23) (v := .d (.fl (.slice none 0 0))) rfl (og rfl (op_move rfl rfl rfl)) ?_
    refine rg_put (d := 24) (v := .d (.fl (.int .i64 0))) rfl (og rfl (op_len_nil rfl Try.underlying22 rfl rfl)) ?_
    refine rg_nam (d := 25) (v := .ow 102) (m := 102) (nw := [(102, .tr 31 11 (tD eSen [])), (101, .no)]) rfl (og rfl (of_eff (op_sliceOwnZ 102 rfl Try.underlying22 ti31 (enc := eSen) (A := []) (fun _ => rfl) rfl rfl rfl (by first | omega | rfl | (simp; omega)) (by (simp [tD]; omega)) rfl) rfl)) rfl ?_
    refine rg_put (d := 0) (v := .ow 102) rfl (og rfl (op_assign rfl rfl rfl)) ?_
    refine rg_done rfl ?_
    show A _ _ _ _ _ _ _
    refine a_rseq ?_
    refine rg_put (d := 26) (v := .ow 102) rfl (og rfl (op_move rfl rfl rfl)) ?_
    refine rg_put (d := 4) (v := .ow 102) rfl (og rfl (op_assign rfl rfl rfl)) ?_
    refine rg_done rfl ?_
    refine a_ret ?_
    show ∃ rv, _ = #[rv] ∧ ResO _ _ rv _
    exact ⟨_, rfl, .tmp rfl rfl⟩
  · skip
    have h3 := f_dec h1
    refine a_skip ?_
    show A _ _ _ _ _ _ _
    refine a_rseq ?_
    refine rg_imp (imp_nilT 0 103 31 11 rfl rfl) ?_
    refine rg_put (d := 26) (v := .ow 103) rfl (og rfl (op_move rfl rfl rfl)) ?_
    refine rg_put (d := 4) (v := .ow 103) rfl (og rfl (op_assign rfl rfl rfl)) ?_
    refine rg_done rfl ?_
    refine a_ret ?_
    show ∃ rv, _ = #[rv] ∧ ResO _ _ rv _
    exact ⟨_, rfl, .tmp rfl rfl⟩
set_option maxHeartbeats 4000000 in
set_option maxRecDepth 100000 in
theorem catC (F : List (List Sen)) (hF : F.length ≤ 1000) (hf : F.flatten.length ≤ 1000) : CtrO Try.prog 43 [.sl 1 (List.map (rL 11 eSen) F)] (.tr 31 11 (tD eSen F.flatten)) := by
  refine ctrO (n := 36) (rs := #[.tmp 2]) (L := [(0, .d (.sl 1 (List.map (rL 11 eSen) F)))]) Try.func43 rfl rfl rfl rfl rfl (fun w0 U0 => ?_)
  refine a_rseq ?_
  refine rg_put (d := 2) (v := .d (.fl (.slice none 0 0))) rfl (og rfl (op_assign rfl rfl rfl)) ?_
  refine rg_done rfl ?_
  refine a_rseq ?_
  refine rg_put (d := 3) (v := .d (.fl (.int .i64 0))) rfl (og rfl (op_assign rfl rfl rfl)) ?_
  refine rg_done rfl ?_
  refine a_seq ?_
  refine a_rseq ?_
  refine rg_put (d := 9) (v := .d (.sl 1 (List.map (rL 11 eSen) F))) rfl (og rfl (op_move rfl rfl rfl)) ?_
  refine rg_put (d := 10) (v := .d (.fl (.int .i64 (F.length : Int)))) rfl (og rfl (s_len rfl Try.underlying24 rfl rfl)) ?_
  refine rg_put (d := 11) (v := .d (.fl (.int .i64 0))) rfl (og rfl (op_move rfl rfl rfl)) ?_
  refine rg_done rfl ?_
  refine a_block ?_
  refine a_loop (ι := Nat) (fun k => SS [(0, .d (.sl 1 (List.map (rL 11 eSen) F))), (2, .d (.fl (.slice none 0 0))), (9, .d (.sl 1 (List.map (rL 11 eSen) F))), (10, .d (.fl (.int .i64 (F.length : Int)))), (11, .d (.fl (.int .i64 (k : Int)))), (3, .d (.fl (.int .i64 ((((F.take k).flatten).length : Int)))))] []) (fun k => k ≤ F.length) (fun k => F.length - k) 0 (by omega) (imp_forget rfl ⟨rfl, rfl, rfl, rfl, rfl, rfl, trivial⟩ trivial) (fun k hok => ?_)
  have hk := hok
  have hfl := fl_le F k
  refine a_rseq ?_
  refine rg_put (d := 12) (v := .d (.fl (.bool ((decide ((k : Int) < (F.length : Int))))))) rfl (og rfl (op_bin rfl rfl rfl (b_lss _ _ _ _) rfl)) ?_
  refine rg_done rfl ?_
  refine a_seq ?_
  refine a_cond rfl (fun h1 => ?_) (fun h1 => ?_)
  · skip
    have h2 := t_dec h1
    refine a_skip ?_
    show A _ _ _ _ _ _ _
    refine a_seq ?_
    refine a_block ?_
    refine a_rseq ?_
    refine rg_put (d := 13) (v := .el (((rL 11 eSen) (ix F k)))) rfl (og rfl (s_index rfl Try.underlying24 ti22 rfl rfl (by omega) (row_at (by omega)) rfl)) ?_
    refine rg_put (d := 14) (v := .d (.sl 11 (List.map eSen (ix F k)))) rfl (og rfl (op_load_el rfl Try.underlying22 rfl rfl rfl rfl)) ?_
    refine rg_put (d := 5) (v := .d (.sl 11 (List.map eSen (ix F k)))) rfl (og rfl (op_assign rfl rfl rfl)) ?_
    refine rg_done rfl ?_
    refine a_rseq ?_
    have hfl3 := fl_le F (k + 1)
    rw [← fl_s (by omega), List.length_append] at hfl3
    refine rg_put (d := 15) (v := .d (.fl (.int .i64 ((((F.take k).flatten).length : Int))))) rfl (og rfl (op_move rfl rfl rfl)) ?_
    refine rg_put (d := 16) (v := .d (.sl 11 (List.map eSen (ix F k)))) rfl (og rfl (op_move rfl rfl rfl)) ?_
    refine rg_put (d := 17) (v := .d (.fl (.int .i64 (((ix F k).length : Int))))) rfl (og rfl (s_len rfl Try.underlying22 rfl rfl)) ?_
    refine rg_put (d := 18) (v := .d (.fl (.int .i64 (((((F.take k).flatten).length : Int) + ((ix F k).length : Int)))))) rfl (og rfl (op_bin rfl rfl rfl (fun x y w => b_add64 _ _ _ x y w (by omega)) rfl)) ?_
    refine rg_put (d := 3) (v := .d (.fl (.int .i64 (((((F.take k).flatten).length : Int) + ((ix F k).length : Int)))))) rfl (og rfl (op_assign rfl rfl rfl)) ?_
    refine rg_done rfl ?_
    refine a_rseq ?_
    refine rg_put (d := 19) (v := .d (.fl (.int .i64 (((((F.take k).flatten).length : Int) + ((ix F k).length : Int)))))) rfl (og rfl (op_move rfl rfl rfl)) ?_
    refine rg_put (d := 20) (v := .d (.fl (.bool ((decide (((((F.take k).flatten).length : Int) + ((ix F k).length : Int)) < 0)))))) rfl (og rfl (op_bin rfl rfl rfl (b_lss _ _ _ _) rfl)) ?_
    refine rg_done rfl ?_
    refine a_condF rfl (show (decide (((((F.take k).flatten).length : Int) + ((ix F k).length : Int)) < 0)) = false from decide_eq_false (by omega)) ?_
    refine a_skip ?_
    show A _ _ _ _ _ _ _
    refine a_region ?_
    refine rg_put (d := 22) (v := .d (.fl (.int .i64 (((k : Int) + 1))))) rfl (og rfl (op_bin rfl rfl rfl (fun x y w => b_add64 _ _ _ x y w (by omega)) rfl)) ?_
    refine rg_put (d := 11) (v := .d (.fl (.int .i64 (((k : Int) + 1))))) rfl (og rfl (op_move rfl rfl rfl)) ?_
    refine rg_done rfl ?_
    show ∃ i, _ ∧ _ ∧ Imp _ _ _ _ _
    refine ⟨k + 1, (by omega), by omega, imp_forget rfl ⟨rfl, rfl, rfl, rfl, (ci (by omega)), (ci (by rw [← fl_s (by omega), List.length_append]; omega)), trivial⟩ trivial⟩
  · skip
    have h3 := f_dec h1
    refine a_exit ?_
    show A _ _ _ _ _ _ _
    refine a_rseq ?_
    refine rg_put (d := 23) (v := .d (.fl (.int .i64 ((((F.take k).flatten).length : Int))))) rfl (og rfl (op_move rfl rfl rfl)) ?_
    refine rg_nam (d := 24) (v := .ow 101) (m := 101) (nw := [(101, .tr 31 11 (tD eSen []))]) rfl (og rfl (of_eff (op_callO 101 rfl Try.func62 nm62 rfl (.cons rfl (.d _) (.cons rfl (.d _) .nil)) (growZ ((F.take k).flatten).length (by have := fl_le F k; omega)) rfl) rfl)) rfl ?_
    refine rg_put (d := 6) (v := .ow 101) rfl (og rfl (op_assign rfl rfl rfl)) ?_
    refine rg_done rfl ?_
    refine a_seq ?_
    refine a_rseq ?_
    refine rg_put (d := 25) (v := .d (.sl 1 (List.map (rL 11 eSen) F))) rfl (og rfl (op_move rfl rfl rfl)) ?_
    refine rg_put (d := 26) (v := .d (.fl (.int .i64 (F.length : Int)))) rfl (og rfl (s_len rfl Try.underlying24 rfl rfl)) ?_
    refine rg_put (d := 27) (v := .d (.fl (.int .i64 0))) rfl (og rfl (op_move rfl rfl rfl)) ?_
    refine rg_done rfl ?_
    refine a_block ?_
    refine a_loop (ι := Nat) (fun j => SS [(0, .d (.sl 1 (List.map (rL 11 eSen) F))), (2, .d (.fl (.slice none 0 0))), (3, .d (.fl (.int .i64 ((((F.take k).flatten).length : Int))))), (9, .d (.sl 1 (List.map (rL 11 eSen) F))), (10, .d (.fl (.int .i64 (F.length : Int)))), (11, .d (.fl (.int .i64 (k : Int)))), (12, .d (.fl (.bool ((decide ((k : Int) < (F.length : Int))))))), (25, .d (.sl 1 (List.map (rL 11 eSen) F))), (26, .d (.fl (.int .i64 (F.length : Int)))), (27, .d (.fl (.int .i64 (j : Int)))), (6, .ow 101)] [(101, .tr 31 11 (tD eSen (((F.take j).flatten))))]) (fun j => j ≤ F.length) (fun j => F.length - j) 0 (by omega) (imp_forget rfl ⟨rfl, rfl, rfl, rfl, rfl, rfl, rfl, rfl, rfl, rfl, rfl, trivial⟩ ⟨rfl, trivial⟩) (fun j hok => ?_)
    have hj := hok
    have hfl2 := fl_le F j
    refine a_rseq ?_
    refine rg_put (d := 28) (v := .d (.fl (.bool ((decide ((j : Int) < (F.length : Int))))))) rfl (og rfl (op_bin rfl rfl rfl (b_lss _ _ _ _) rfl)) ?_
    refine rg_done rfl ?_
    refine a_seq ?_
    refine a_cond rfl (fun h4 => ?_) (fun h4 => ?_)
    · skip
      have h5 := t_dec h4
      refine a_skip ?_
      show A _ _ _ _ _ _ _
      refine a_seq ?_
      refine a_block ?_
      refine a_rseq ?_
      refine rg_put (d := 29) (v := .el (((rL 11 eSen) (ix F j)))) rfl (og rfl (s_index rfl Try.underlying24 ti22 rfl rfl (by omega) (row_at (by omega)) rfl)) ?_
      refine rg_put (d := 30) (v := .d (.sl 11 (List.map eSen (ix F j)))) rfl (og rfl (op_load_el rfl Try.underlying22 rfl rfl rfl rfl)) ?_
      refine rg_put (d := 8) (v := .d (.sl 11 (List.map eSen (ix F j)))) rfl (og rfl (op_assign rfl rfl rfl)) ?_
      refine rg_done rfl ?_
      refine a_region ?_
      have hfl4 := fl_le F (j + 1)
      rw [← fl_s (by omega), List.length_append] at hfl4
      refine rg_put (d := 31) (v := .ow 101) rfl (og rfl (op_move rfl rfl rfl)) ?_
      refine rg_put (d := 32) (v := .d (.sl 11 (List.map eSen (ix F j)))) rfl (og rfl (op_move rfl rfl rfl)) ?_
      refine rg_nam (d := 33) (v := .ow 102) (m := 102) (nw := [(102, .tr 31 11 (tD eSen ((((F.take j).flatten) ++ (ix F j))))), (101, .no)]) rfl (og rfl (of_eff (s_append_td 102 rfl Try.underlying22 ti31 rfl rfl rfl rfl rfl (.d _) (by omega) rfl) rfl)) rfl ?_
      refine rg_put (d := 6) (v := .ow 102) rfl (og rfl (op_assign rfl rfl rfl)) ?_
      refine rg_done rfl ?_
      show A _ _ _ _ _ _ _
      refine a_region ?_
      refine rg_put (d := 34) (v := .d (.fl (.int .i64 (((j : Int) + 1))))) rfl (og rfl (op_bin rfl rfl rfl (fun x y w => b_add64 _ _ _ x y w (by omega)) rfl)) ?_
      refine rg_put (d := 27) (v := .d (.fl (.int .i64 (((j : Int) + 1))))) rfl (og rfl (op_move rfl rfl rfl)) ?_
      refine rg_done rfl ?_
      show ∃ i, _ ∧ _ ∧ Imp _ _ _ _ _
      refine ⟨j + 1, (by omega), by omega, imp_ren (fun m => bif Nat.beq m 101 then 102 else m) rfl ⟨rfl, rfl, rfl, rfl, rfl, rfl, rfl, rfl, rfl, (ci (by omega)), rfl, trivial⟩ ⟨(congrArg (fun z => Ob.tr 31 11 (tD eSen z)) (fl_s (by omega))), trivial⟩⟩
    · skip
      have h6 := f_dec h4
      refine a_exit ?_
      show A _ _ _ _ _ _ _
      refine a_rseq ?_
      rw [show (F.take j) = F from by rw [show j = F.length by omega, List.take_length]]
      refine rg_put (d := 35) (v := .ow 101) rfl (og rfl (op_move rfl rfl rfl)) ?_
      refine rg_put (d := 2) (v := .ow 101) rfl (og rfl (op_assign rfl rfl rfl)) ?_
      refine rg_done rfl ?_
      refine a_ret ?_
      show ∃ rv, _ = #[rv] ∧ ResO _ _ rv _
      exact ⟨_, rfl, .tmp rfl rfl⟩
set_option maxHeartbeats 4000000 in
set_option maxRecDepth 100000 in
theorem idxC (r : List Sen) (s : Sen) (hr : r.length ≤ 1000) : Ctr Try.prog 63 [.sl 11 (List.map eSen r), .ag (eSen s)] (.d (.fl (.int .i64 (ixS r s)))) := by
  refine ctr (n := 19) (rs := #[.tmp 4]) (L := [(0, .d (.sl 11 (List.map eSen r))), (1, .d (.ag (eSen s)))]) Try.func63 rfl rfl rfl rfl rfl (fun w0 U0 => ?_)
  refine a_rseq ?_
  refine rg_nam (d := 3) (v := .pt 101 0) (m := 101) (nw := [(101, .bx 31 (eSen s))]) rfl (og rfl (of_eff (op_box 101 rfl rfl rfl rfl) rfl)) rfl ?_
  refine rg_put (d := 4) (v := .d (.fl (.int .i64 0))) rfl (og rfl (op_assign rfl rfl rfl)) ?_
  refine rg_done rfl ?_
  refine a_seq ?_
  refine a_rseq ?_
  refine rg_put (d := 6) (v := .d (.sl 11 (List.map eSen r))) rfl (og rfl (op_move rfl rfl rfl)) ?_
  refine rg_put (d := 7) (v := .d (.fl (.int .i64 (r.length : Int)))) rfl (og rfl (s_len rfl Try.underlying22 rfl rfl)) ?_
  refine rg_put (d := 8) (v := .d (.fl (.int .i64 0))) rfl (og rfl (op_move rfl rfl rfl)) ?_
  refine rg_done rfl ?_
  refine a_block ?_
  refine a_loop (ι := Nat) (fun k => SS [(0, .d (.sl 11 (List.map eSen r))), (1, .d (.ag (eSen s))), (3, .pt 101 0), (7, .d (.fl (.int .i64 (r.length : Int)))), (8, .d (.fl (.int .i64 (k : Int))))] [(101, .bx 31 (eSen s))]) (fun k => k ≤ r.length ∧ ∀ q, q < k → (eS s (ix r q)) = false) (fun k => r.length - k) 0 (⟨by omega, fun q h => by omega⟩) (imp_forget rfl ⟨rfl, rfl, rfl, rfl, (by first | rfl | exact ci (by omega) | exact ci (by simp) | exact cd (by simp) | simp), trivial⟩ ⟨rfl, trivial⟩) (fun k hok => ?_)
  obtain ⟨hkk, hq⟩ := hok
  refine a_rseq ?_
  refine rg_put (d := 9) (v := .d (.fl (.bool ((decide ((k : Int) < (r.length : Int))))))) rfl (og rfl (op_bin rfl rfl rfl (b_lss _ _ _ _) rfl)) ?_
  refine rg_done rfl ?_
  refine a_seq ?_
  refine a_cond rfl (fun h1 => ?_) (fun h1 => ?_)
  · skip
    have h2 := t_dec h1
    refine a_skip ?_
    show A _ _ _ _ _ _ _
    refine a_seq ?_
    refine a_block ?_
    refine a_rseq ?_
    refine rg_put (d := 10) (v := .d (.fl (.int .i64 (k : Int)))) rfl (og rfl (op_move rfl rfl rfl)) ?_
    refine rg_put (d := 5) (v := .d (.fl (.int .i64 (k : Int)))) rfl (og rfl (op_assign rfl rfl rfl)) ?_
    refine rg_done rfl ?_
    refine a_dseq (by kernel_rfl) ?_
    refine dr_put (d := 11) (v := .d (.ag (eSen s))) rfl (og rfl (of_eff (s_load_pts rfl Try.underlying31 rfl ti31 rfl rfl rfl rfl) rfl)) ?_
    refine dr_put (d := 12) (v := .d (.sl 11 (List.map eSen r))) rfl (og rfl (op_move rfl rfl rfl)) ?_
    refine dr_put (d := 13) (v := .d (.fl (.int .i64 (k : Int)))) rfl (og rfl (op_move rfl rfl rfl)) ?_
    refine dr_put (d := 14) (v := .el ((eSen (ix r k)))) rfl (og rfl (s_index rfl Try.underlying22 ti31 rfl rfl (by omega) (row_at (by omega)) rfl)) ?_
    refine dr_put (d := 15) (v := .d (.ag (eSen (ix r k)))) rfl (og rfl (of_eff (s_load_els rfl Try.underlying31 rfl ti31 rfl rfl rfl) rfl)) ?_
    refine dr_put (d := 16) (v := .d (.fl (.bool ((eS s (ix r k)))))) rfl (og rfl (op_eqS [.string s.d.dev, .int .i64 s.d.seq, .int .i64 s.d.time, .string s.d.tag, .string s.d.plate, .int .i64 s.d.axl, .int .i64 s.d.score, .int .i64 s.time, .string s.point, .int .i64 s.lane, .int .i64 s.kind] [.string (((ix r k).d).dev), .int .i64 (((ix r k).d).seq), .int .i64 (((ix r k).d).time), .string (((ix r k).d).tag), .string (((ix r k).d).plate), .int .i64 (((ix r k).d).axl), .int .i64 (((ix r k).d).score), .int .i64 ((ix r k).time), .string ((ix r k).point), .int .i64 ((ix r k).lane), .int .i64 ((ix r k).kind)] rfl rfl rfl (b := (eS s (ix r k))) (fun ww => eqlG s (ix r k) _ _ ww) rfl)) ?_
    refine dr_done rfl (by kernel_rfl) (by kernel_rfl) ?_
    refine a_cond rfl (fun h3 => ?_) (fun h3 => ?_)
    · skip
      refine a_rseq ?_
      refine rg_put (d := 17) (v := .d (.fl (.int .i64 (k : Int)))) rfl (og rfl (op_move rfl rfl rfl)) ?_
      refine rg_put (d := 4) (v := .d (.fl (.int .i64 (k : Int)))) rfl (og rfl (op_assign rfl rfl rfl)) ?_
      refine rg_done rfl ?_
      refine a_ret ?_
      show ∃ ds, ResL _ _ _ ds ∧ RV.of ds = _
      refine ⟨[.fl (.int .i64 (k : Int))], (.cons (.tmp rfl (.d _)) .nil), ?_⟩
      rw [ixS_at (by omega) hq h3]; rfl
    · skip
      refine a_skip ?_
      show A _ _ _ _ _ _ _
      refine a_region ?_
      refine rg_put (d := 18) (v := .d (.fl (.int .i64 (((k : Int) + 1))))) rfl (og rfl (op_bin rfl rfl rfl (fun x y w => b_add64 _ _ _ x y w (by omega)) rfl)) ?_
      refine rg_put (d := 8) (v := .d (.fl (.int .i64 (((k : Int) + 1))))) rfl (og rfl (op_move rfl rfl rfl)) ?_
      refine rg_done rfl ?_
      have hx : (eS s (ix r k)) = false := h3
      show ∃ i, _ ∧ _ ∧ Imp _ _ _ _ _
      refine ⟨k + 1, ⟨by omega, fun q h => (Nat.lt_succ_iff_lt_or_eq.1 h).elim (hq q) (fun e => by rw [e]; exact hx)⟩, by omega, imp_forget rfl ⟨rfl, rfl, rfl, rfl, (by first | rfl | exact ci (by omega) | exact ci (by simp) | exact cd (by simp) | simp), trivial⟩ ⟨rfl, trivial⟩⟩
  · skip
    have h4 := f_dec h1
    refine a_exit ?_
    show A _ _ _ _ _ _ _
    refine a_rseq ?_
    refine rg_put (d := 4) (v := .d (.fl (.int .i64 (-1)))) rfl (og rfl (op_assign rfl rfl rfl)) ?_
    refine rg_done rfl ?_
    refine a_ret ?_
    show ∃ ds, ResL _ _ _ ds ∧ RV.of ds = _
    refine ⟨[.fl (.int .i64 (-1))], (.cons (.tmp rfl (.d _)) .nil), ?_⟩
    rw [ixS_no (fun q h => hq q (by omega))]; rfl
set_option maxHeartbeats 4000000 in
set_option maxRecDepth 100000 in
theorem conC (r : List Sen) (s : Sen) (hr : r.length ≤ 1000) : Ctr Try.prog 46 [.sl 11 (List.map eSen r), .ag (eSen s)] (.d (.fl (.bool (hasB r s)))) := by
  refine ctr (n := 9) (rs := #[.tmp 4]) (L := [(0, .d (.sl 11 (List.map eSen r))), (1, .d (.ag (eSen s)))]) Try.func46 rfl rfl rfl rfl rfl (fun w0 U0 => ?_)
  refine a_rseq ?_
  refine rg_nam (d := 3) (v := .pt 101 0) (m := 101) (nw := [(101, .bx 31 (eSen s))]) rfl (og rfl (of_eff (op_box 101 rfl rfl rfl rfl) rfl)) rfl ?_
  refine rg_put (d := 4) (v := .d (.fl (.bool false))) rfl (og rfl (op_assign rfl rfl rfl)) ?_
  refine rg_done rfl ?_
  refine a_rseq ?_
  refine rg_put (d := 5) (v := .d (.sl 11 (List.map eSen r))) rfl (og rfl (op_move rfl rfl rfl)) ?_
  refine rg_put (d := 6) (v := .d (.ag (eSen s))) rfl (og rfl (of_eff (s_load_pts rfl Try.underlying31 rfl ti31 rfl rfl rfl rfl) rfl)) ?_
  refine rg_put (d := 7) (v := .d (.fl (.int .i64 (ixS r s)))) rfl (og rfl (op_call rfl Try.func63 nm63 rfl (.cons rfl (.d _) (.cons rfl (.d _) .nil)) (idxC r s hr) rfl)) ?_
  refine rg_put (d := 8) (v := .d (.fl (.bool ((decide (0 ≤ (ixS r s))))))) rfl (og rfl (op_bin rfl rfl rfl (b_geq _ _ _ _) rfl)) ?_
  refine rg_put (d := 4) (v := .d (.fl (.bool ((decide (0 ≤ (ixS r s))))))) rfl (og rfl (op_assign rfl rfl rfl)) ?_
  refine rg_done rfl ?_
  refine a_ret ?_
  show ∃ ds, ResL _ _ _ ds ∧ RV.of ds = _
  refine ⟨[.fl (.bool ((decide (0 ≤ (ixS r s)))))], (.cons (.tmp rfl (.d _)) .nil), ?_⟩
  rw [ixS_has]; rfl
set_option maxHeartbeats 4000000 in
set_option maxRecDepth 100000 in
theorem cloI (r : List Sen) (s : Sen) (hr : r.length ≤ 1000) : Ctr Try.prog 45 [.sl 11 (List.map eSen r), .el (eSen s)] (.d (.fl (.bool (hasB r s)))) := by
  refine ctr (n := 7) (rs := #[.tmp 3]) (L := [(0, .d (.sl 11 (List.map eSen r))), (1, .el (eSen s))]) Try.func45 rfl rfl rfl rfl rfl (fun w0 U0 => ?_)
  refine a_rseq ?_
  refine rg_put (d := 3) (v := .d (.fl (.bool false))) rfl (og rfl (op_assign rfl rfl rfl)) ?_
  refine rg_done rfl ?_
  refine a_rseq ?_
  refine rg_put (d := 4) (v := .d (.sl 11 (List.map eSen r))) rfl (og rfl (op_move rfl rfl rfl)) ?_
  refine rg_put (d := 5) (v := .d (.ag (eSen s))) rfl (og rfl (of_eff (s_load_els rfl Try.underlying31 rfl ti31 rfl rfl rfl) rfl)) ?_
  refine rg_put (d := 6) (v := .d (.fl (.bool (hasB r s)))) rfl (og rfl (op_call rfl Try.func46 nm46 rfl (.cons rfl (.d _) (.cons rfl (.d _) .nil)) (conC r s hr) rfl)) ?_
  refine rg_put (d := 3) (v := .d (.fl (.bool (hasB r s)))) rfl (og rfl (op_assign rfl rfl rfl)) ?_
  refine rg_done rfl ?_
  refine a_ret ?_
  show ∃ ds, ResL _ _ _ ds ∧ RV.of ds = _
  refine ⟨[.fl (.bool (hasB r s))], (.cons (.tmp rfl (.d _)) .nil), ?_⟩
  rfl
set_option maxHeartbeats 4000000 in
set_option maxRecDepth 100000 in
theorem ixfC (F : List (List Sen)) (s : Sen) (hF : F.length ≤ 1000) (hR : ∀ r ∈ F, r.length ≤ 1000) : Ctr Try.prog 44 [.sl 1 (List.map (rL 11 eSen) F), .fn 45 [.el (eSen s)]] (.d (.fl (.int .i64 (ixF F s)))) := by
  refine ctr (n := 19) (rs := #[.tmp 4]) (L := [(0, .d (.sl 1 (List.map (rL 11 eSen) F))), (1, .d (.fn 45 [.el (eSen s)]))]) Try.func44 rfl rfl rfl rfl rfl (fun w0 U0 => ?_)
  refine a_rseq ?_
  refine rg_put (d := 4) (v := .d (.fl (.int .i64 0))) rfl (og rfl (op_assign rfl rfl rfl)) ?_
  refine rg_done rfl ?_
  refine a_seq ?_
  refine a_rseq ?_
  refine rg_put (d := 6) (v := .d (.sl 1 (List.map (rL 11 eSen) F))) rfl (og rfl (op_move rfl rfl rfl)) ?_
  refine rg_put (d := 7) (v := .d (.fl (.int .i64 (F.length : Int)))) rfl (og rfl (s_len rfl Try.underlying24 rfl rfl)) ?_
  refine rg_put (d := 8) (v := .d (.fl (.int .i64 0))) rfl (og rfl (op_move rfl rfl rfl)) ?_
  refine rg_done rfl ?_
  refine a_block ?_
  refine a_loop (ι := Nat) (fun k => SS [(0, .d (.sl 1 (List.map (rL 11 eSen) F))), (1, .d (.fn 45 [.el (eSen s)])), (7, .d (.fl (.int .i64 (F.length : Int)))), (8, .d (.fl (.int .i64 (k : Int))))] []) (fun k => k ≤ F.length ∧ ∀ q, q < k → (hasB (ix F q) s) = false) (fun k => F.length - k) 0 (⟨by omega, fun q h => by omega⟩) (imp_forget rfl ⟨rfl, rfl, rfl, (by first | rfl | exact ci (by omega) | exact ci (by simp) | exact cd (by simp) | simp), trivial⟩ trivial) (fun k hok => ?_)
  obtain ⟨hkk, hq⟩ := hok
  refine a_rseq ?_
  refine rg_put (d := 9) (v := .d (.fl (.bool ((decide ((k : Int) < (F.length : Int))))))) rfl (og rfl (op_bin rfl rfl rfl (b_lss _ _ _ _) rfl)) ?_
  refine rg_done rfl ?_
  refine a_seq ?_
  refine a_cond rfl (fun h1 => ?_) (fun h1 => ?_)
  · skip
    have h2 := t_dec h1
    refine a_skip ?_
    show A _ _ _ _ _ _ _
    refine a_seq ?_
    refine a_block ?_
    refine a_rseq ?_
    refine rg_put (d := 10) (v := .d (.fl (.int .i64 (k : Int)))) rfl (og rfl (op_move rfl rfl rfl)) ?_
    refine rg_put (d := 5) (v := .d (.fl (.int .i64 (k : Int)))) rfl (og rfl (op_assign rfl rfl rfl)) ?_
    refine rg_done rfl ?_
    refine a_rseq ?_
    refine rg_put (d := 11) (v := .d (.fn 45 [.el (eSen s)])) rfl (og rfl (op_move rfl rfl rfl)) ?_
    refine rg_put (d := 12) (v := .d (.sl 1 (List.map (rL 11 eSen) F))) rfl (og rfl (op_move rfl rfl rfl)) ?_
    refine rg_put (d := 13) (v := .d (.fl (.int .i64 (k : Int)))) rfl (og rfl (op_move rfl rfl rfl)) ?_
    refine rg_put (d := 14) (v := .el (((rL 11 eSen) (ix F k)))) rfl (og rfl (s_index rfl Try.underlying24 ti22 rfl rfl (by omega) (row_at (by omega)) rfl)) ?_
    refine rg_put (d := 15) (v := .d (.sl 11 (List.map eSen (ix F k)))) rfl (og rfl (op_load_el rfl Try.underlying22 rfl rfl rfl rfl)) ?_
    refine rg_put (d := 16) (v := .d (.fl (.bool ((hasB (ix F k) s))))) rfl (og rfl (op_callV rfl rfl ⟨_, Try.func45, nm45, rfl⟩ (.cons rfl (.d _) .nil) (cloI (ix F k) s (hR _ (ix_mem (by omega)))) rfl)) ?_
    refine rg_done rfl ?_
    refine a_cond rfl (fun h3 => ?_) (fun h3 => ?_)
    · skip
      refine a_rseq ?_
      refine rg_put (d := 17) (v := .d (.fl (.int .i64 (k : Int)))) rfl (og rfl (op_move rfl rfl rfl)) ?_
      refine rg_put (d := 4) (v := .d (.fl (.int .i64 (k : Int)))) rfl (og rfl (op_assign rfl rfl rfl)) ?_
      refine rg_done rfl ?_
      refine a_ret ?_
      show ∃ ds, ResL _ _ _ ds ∧ RV.of ds = _
      refine ⟨[.fl (.int .i64 (k : Int))], (.cons (.tmp rfl (.d _)) .nil), ?_⟩
      rw [ixF_at (by omega) hq h3]; rfl
    · skip
      refine a_skip ?_
      show A _ _ _ _ _ _ _
      refine a_region ?_
      refine rg_put (d := 18) (v := .d (.fl (.int .i64 (((k : Int) + 1))))) rfl (og rfl (op_bin rfl rfl rfl (fun x y w => b_add64 _ _ _ x y w (by omega)) rfl)) ?_
      refine rg_put (d := 8) (v := .d (.fl (.int .i64 (((k : Int) + 1))))) rfl (og rfl (op_move rfl rfl rfl)) ?_
      refine rg_done rfl ?_
      have hx : (hasB (ix F k) s) = false := h3
      show ∃ i, _ ∧ _ ∧ Imp _ _ _ _ _
      refine ⟨k + 1, ⟨by omega, fun q h => (Nat.lt_succ_iff_lt_or_eq.1 h).elim (hq q) (fun e => by rw [e]; exact hx)⟩, by omega, imp_forget rfl ⟨rfl, rfl, rfl, (by first | rfl | exact ci (by omega) | exact ci (by simp) | exact cd (by simp) | simp), trivial⟩ trivial⟩
  · skip
    have h4 := f_dec h1
    refine a_exit ?_
    show A _ _ _ _ _ _ _
    refine a_rseq ?_
    refine rg_put (d := 4) (v := .d (.fl (.int .i64 (-1)))) rfl (og rfl (op_assign rfl rfl rfl)) ?_
    refine rg_done rfl ?_
    refine a_ret ?_
    show ∃ ds, ResL _ _ _ ds ∧ RV.of ds = _
    refine ⟨[.fl (.int .i64 (-1))], (.cons (.tmp rfl (.d _)) .nil), ?_⟩
    rw [ixF_no (fun q h => hq q (by omega))]; rfl
set_option maxHeartbeats 4000000 in
set_option maxRecDepth 100000 in
theorem ins24 (F : List (List Sen)) (s : Sen) (gap : Int) (hF : F.length ≤ 900) (hf : F.flatten.length ≤ 900) : Ctr Try.prog 24 [.sl 1 (List.map (rL 11 eSen) F), .ag (eSen s), .fl (.int .i64 gap)] (.tu [.sl 1 (List.map (rL 11 eSen) (frm (F.flatten ++ [s]) gap)), .fl (.int .i64 (ixF (frm (F.flatten ++ [s]) gap) s))]) := by
  have hF : F.length ≤ 1000 := by omega
  refine ctr (n := 20) (rs := #[.tmp 6, .tmp 7]) (L := [(0, .d (.sl 1 (List.map (rL 11 eSen) F))), (1, .d (.ag (eSen s))), (2, .d (.fl (.int .i64 gap)))]) Try.func24 rfl rfl rfl rfl rfl (fun w0 U0 => ?_)
  refine a_rseq ?_
  refine rg_nam (d := 4) (v := .pt 101 0) (m := 101) (nw := [(101, .bx 31 (eSen s))]) rfl (og rfl (of_eff (op_box 101 rfl rfl rfl rfl) rfl)) rfl ?_
  refine rg_put (d := 6) (v := .d (.fl (.slice none 0 0))) rfl (og rfl (op_assign rfl rfl rfl)) ?_
  refine rg_put (d := 7) (v := .d (.fl (.int .i64 0))) rfl (og rfl (op_assign rfl rfl rfl)) ?_
  refine rg_done rfl ?_
  refine a_dseq (by kernel_rfl) ?_
  refine dr_put (d := 9) (v := .d (.sl 1 (List.map (rL 11 eSen) F))) rfl (og rfl (op_move rfl rfl rfl)) ?_
  refine dr_nam (d := 10) (v := .ow 102) (m := 102) (nw := [(102, .ow 31 11 (List.map eSen F.flatten))]) rfl (og rfl (op_callW 102 rfl Try.func43 nm43 rfl (.cons rfl (.d _) .nil) (ctrW_of_O (catC F hF (by omega)) tD_ok tD_rd) rfl)) ?_
  refine dr_put (d := 11) (v := .d (.ag (eSen s))) rfl (og rfl (of_eff (s_load_pts rfl Try.underlying31 rfl ti31 rfl rfl rfl rfl) rfl)) ?_
  refine dr_put (d := 12) (v := .d (.sl 11 (List.map eSen [s]))) rfl (og rfl (of_eff (op_slices rfl Try.underlying22 ti31 rfl rfl rfl (by kernel_rfl) (xs := [.ag (eSen s)]) rfl rfl (.cons rfl rfl (.d _) rfl rfl rfl .nil) rfl) rfl)) ?_
  refine dr_nam (d := 13) (v := .ow 103) (m := 103) (nw := [(103, .ow 31 11 (List.map eSen (F.flatten ++ [s]))), (102, .no)]) rfl (og rfl (s_append 103 rfl Try.underlying22 ti31 rfl rfl rfl rfl rfl (.d _) (by simp only [List.length_append, List.length_cons, List.length_nil]; omega) rfl)) ?_
  refine dr_put (d := 14) (v := .d (.fl (.int .i64 gap))) rfl (og rfl (op_move rfl rfl rfl)) ?_
  refine dr_put (d := 15) (v := .d (.sl 1 (List.map (rL 11 eSen) ((frm (F.flatten ++ [s]) gap))))) rfl (og rfl (op_call rfl Try.func11 nm11 rfl (.cons rfl (.ow rfl) (.cons rfl (.d _) .nil)) (frm11 (F.flatten ++ [s]) gap (by rw [List.length_append]; simp only [List.length_singleton]; omega)) rfl)) ?_
  refine dr_put (d := 8) (v := .d (.sl 1 (List.map (rL 11 eSen) ((frm (F.flatten ++ [s]) gap))))) rfl (og rfl (op_assign rfl rfl rfl)) ?_
  refine dr_done rfl (by kernel_rfl) (by kernel_rfl) ?_
  refine a_rseq ?_
  refine rg_imp (imp_freeze 4 101 rfl rfl) ?_
  refine rg_put (d := 16) (v := .d (.sl 1 (List.map (rL 11 eSen) ((frm (F.flatten ++ [s]) gap))))) rfl (og rfl (op_move rfl rfl rfl)) ?_
  refine rg_put (d := 17) (v := .d (.sl 1 (List.map (rL 11 eSen) ((frm (F.flatten ++ [s]) gap))))) rfl (og rfl (op_move rfl rfl rfl)) ?_
  refine rg_put (d := 18) (v := .d (.fn 45 [.el (eSen s)])) rfl (og rfl (op_mkfn rfl (.cons rfl .nil) rfl)) ?_
  refine rg_put (d := 19) (v := .d (.fl (.int .i64 ((ixF (frm (F.flatten ++ [s]) gap) s))))) rfl (og rfl (op_call rfl Try.func44 nm44 rfl (.cons rfl (.d _) (.cons rfl (.d _) .nil)) (ixfC (frm (F.flatten ++ [s]) gap) s (by have := frm_len (F.flatten ++ [s]) gap; rw [List.length_append, List.length_singleton] at this; omega) (fun r hr => by have := (frm_run hr).2; rw [List.length_append, List.length_singleton] at this; omega)) rfl)) ?_
  refine rg_put (d := 6) (v := .d (.sl 1 (List.map (rL 11 eSen) ((frm (F.flatten ++ [s]) gap))))) rfl (og rfl (op_assign rfl rfl rfl)) ?_
  refine rg_put (d := 7) (v := .d (.fl (.int .i64 ((ixF (frm (F.flatten ++ [s]) gap) s))))) rfl (og rfl (op_assign rfl rfl rfl)) ?_
  refine rg_done rfl ?_
  refine a_ret ?_
  show ∃ ds, ResL _ _ _ ds ∧ RV.of ds = _
  refine ⟨[.sl 1 (List.map (rL 11 eSen) ((frm (F.flatten ++ [s]) gap))), .fl (.int .i64 ((ixF (frm (F.flatten ++ [s]) gap) s)))], (.cons (.tmp rfl (.d _)) (.cons (.tmp rfl (.d _)) .nil)), ?_⟩
  rfl
set_option maxHeartbeats 4000000 in
set_option maxRecDepth 100000 in
theorem saC (l : List Sen) (hl : l.length ≤ 1000) : Ctr Try.prog 20 [.sl 11 (List.map eSen l), .sl 11 (List.map eSen l)] (.d (.fl (.bool (true)))) := by
  refine ctr (n := 26) (rs := #[.tmp 4]) (L := [(0, .d (.sl 11 (List.map eSen l))), (1, .d (.sl 11 (List.map eSen l)))]) Try.func20 rfl rfl rfl rfl rfl (fun w0 U0 => ?_)
  refine a_rseq ?_
  refine rg_put (d := 4) (v := .d (.fl (.bool false))) rfl (og rfl (op_assign rfl rfl rfl)) ?_
  refine rg_done rfl ?_
  refine a_seq ?_
  refine a_rseq ?_
  refine rg_put (d := 6) (v := .d (.sl 11 (List.map eSen l))) rfl (og rfl (op_move rfl rfl rfl)) ?_
  refine rg_put (d := 7) (v := .d (.fl (.int .i64 (l.length : Int)))) rfl (og rfl (s_len rfl Try.underlying22 rfl rfl)) ?_
  refine rg_put (d := 8) (v := .d (.sl 11 (List.map eSen l))) rfl (og rfl (op_move rfl rfl rfl)) ?_
  refine rg_put (d := 9) (v := .d (.fl (.int .i64 (l.length : Int)))) rfl (og rfl (s_len rfl Try.underlying22 rfl rfl)) ?_
  refine rg_put (d := 10) (v := .d (.fl (.bool (((l.length : Int) != (l.length : Int)))))) rfl (og rfl (op_bin rfl rfl rfl (b_neq _ _ _ _) rfl)) ?_
  refine rg_done rfl ?_
  refine a_condF rfl (bne_self_eq_false _) ?_
  refine a_skip ?_
  show A _ _ _ _ _ _ _
  refine a_seq ?_
  refine a_rseq ?_
  refine rg_put (d := 5) (v := .d (.fl (.int .i64 0))) rfl (og rfl (op_assign rfl rfl rfl)) ?_
  refine rg_done rfl ?_
  refine a_block ?_
  refine a_loop (ι := Nat) (fun k => SS [(0, .d (.sl 11 (List.map eSen l))), (1, .d (.sl 11 (List.map eSen l))), (10, .d (.fl (.bool (((l.length : Int) != (l.length : Int)))))), (5, .d (.fl (.int .i64 (k : Int))))] []) (fun k => k ≤ l.length) (fun k => l.length - k) 0 (by omega) (imp_forget rfl ⟨rfl, rfl, rfl, rfl, trivial⟩ trivial) (fun k hok => ?_)
  have hk := hok
  refine a_seq ?_
  refine a_rseq ?_
  refine rg_put (d := 11) (v := .d (.fl (.int .i64 (k : Int)))) rfl (og rfl (op_move rfl rfl rfl)) ?_
  refine rg_put (d := 12) (v := .d (.sl 11 (List.map eSen l))) rfl (og rfl (op_move rfl rfl rfl)) ?_
  refine rg_put (d := 13) (v := .d (.fl (.int .i64 (l.length : Int)))) rfl (og rfl (s_len rfl Try.underlying22 rfl rfl)) ?_
  refine rg_put (d := 14) (v := .d (.fl (.bool ((decide ((k : Int) < (l.length : Int))))))) rfl (og rfl (op_bin rfl rfl rfl (b_lss _ _ _ _) rfl)) ?_
  refine rg_done rfl ?_
  refine a_cond rfl (fun h1 => ?_) (fun h1 => ?_)
  · skip
    have h2 := t_dec h1
    refine a_skip ?_
    show A _ _ _ _ _ _ _
    refine a_seq ?_
    refine a_block ?_
    refine a_dseq (by kernel_rfl) ?_
    refine dr_put (d := 17) (v := .d (.sl 11 (List.map eSen l))) rfl (og rfl (op_move rfl rfl rfl)) ?_
    refine dr_put (d := 18) (v := .d (.fl (.int .i64 (k : Int)))) rfl (og rfl (op_move rfl rfl rfl)) ?_
    refine dr_put (d := 19) (v := .el ((eSen (ix l k)))) rfl (og rfl (s_index rfl Try.underlying22 ti31 rfl rfl (by omega) (row_at (by omega)) rfl)) ?_
    refine dr_put (d := 20) (v := .d (.ag (eSen (ix l k)))) rfl (og rfl (of_eff (s_load_els rfl Try.underlying31 rfl ti31 rfl rfl rfl) rfl)) ?_
    refine dr_put (d := 21) (v := .d (.sl 11 (List.map eSen l))) rfl (og rfl (op_move rfl rfl rfl)) ?_
    refine dr_put (d := 22) (v := .d (.fl (.int .i64 (k : Int)))) rfl (og rfl (op_move rfl rfl rfl)) ?_
    refine dr_put (d := 23) (v := .el ((eSen (ix l k)))) rfl (og rfl (s_index rfl Try.underlying22 ti31 rfl rfl (by omega) (row_at (by omega)) rfl)) ?_
    refine dr_put (d := 24) (v := .d (.ag (eSen (ix l k)))) rfl (og rfl (of_eff (s_load_els rfl Try.underlying31 rfl ti31 rfl rfl rfl) rfl)) ?_
    refine dr_put (d := 25) (v := .d (.fl (.bool ((!(eS (ix l k) (ix l k))))))) rfl (og rfl (op_eqS [.string (((ix l k).d).dev), .int .i64 (((ix l k).d).seq), .int .i64 (((ix l k).d).time), .string (((ix l k).d).tag), .string (((ix l k).d).plate), .int .i64 (((ix l k).d).axl), .int .i64 (((ix l k).d).score), .int .i64 ((ix l k).time), .string ((ix l k).point), .int .i64 ((ix l k).lane), .int .i64 ((ix l k).kind)] [.string (((ix l k).d).dev), .int .i64 (((ix l k).d).seq), .int .i64 (((ix l k).d).time), .string (((ix l k).d).tag), .string (((ix l k).d).plate), .int .i64 (((ix l k).d).axl), .int .i64 (((ix l k).d).score), .int .i64 ((ix l k).time), .string ((ix l k).point), .int .i64 ((ix l k).lane), .int .i64 ((ix l k).kind)] rfl rfl rfl (b := (!(eS (ix l k) (ix l k)))) (fun ww => neqG (ix l k) (ix l k) _ _ ww) rfl)) ?_
    refine dr_done rfl (by kernel_rfl) (by kernel_rfl) ?_
    refine a_condF rfl (not_f (show ((eS (ix l k) (ix l k))) = true from by simp [eS_self])) ?_
    refine a_skip ?_
    show A _ _ _ _ _ _ _
    refine a_region ?_
    refine rg_put (d := 15) (v := .d (.fl (.int .i64 (k : Int)))) rfl (og rfl (op_move rfl rfl rfl)) ?_
    refine rg_put (d := 16) (v := .d (.fl (.int .i64 (((k : Int) + 1))))) rfl (og rfl (op_bin rfl rfl rfl (fun x y w => b_add64 _ _ _ x y w (by omega)) rfl)) ?_
    refine rg_put (d := 5) (v := .d (.fl (.int .i64 (((k : Int) + 1))))) rfl (og rfl (op_assign rfl rfl rfl)) ?_
    refine rg_done rfl ?_
    show ∃ i, _ ∧ _ ∧ Imp _ _ _ _ _
    refine ⟨k + 1, (by omega), by omega, imp_forget rfl ⟨rfl, rfl, rfl, (ci (by omega)), trivial⟩ trivial⟩
  · skip
    have h3 := f_dec h1
    refine a_exit ?_
    show A _ _ _ _ _ _ _
    refine a_rseq ?_
    refine rg_put (d := 4) (v := .d (.fl (.bool true))) rfl (og rfl (op_assign rfl rfl rfl)) ?_
    refine rg_done rfl ?_
    refine a_ret ?_
    show ∃ ds, ResL _ _ _ ds ∧ RV.of ds = _
    refine ⟨[.fl (.bool true)], (.cons (.tmp rfl (.d _)) .nil), ?_⟩
    rfl
set_option maxHeartbeats 4000000 in
set_option maxRecDepth 100000 in
theorem sfC (F : List (List Sen)) (hF : F.length ≤ 1000) (hR : ∀ r ∈ F, r.length ≤ 1000) : Ctr Try.prog 10 [.sl 1 (List.map (rL 11 eSen) F), .sl 1 (List.map (rL 11 eSen) F)] (.d (.fl (.bool (true)))) := by
  refine ctr (n := 27) (rs := #[.tmp 4]) (L := [(0, .d (.sl 1 (List.map (rL 11 eSen) F))), (1, .d (.sl 1 (List.map (rL 11 eSen) F)))]) Try.func10 rfl rfl rfl rfl rfl (fun w0 U0 => ?_)
  refine a_rseq ?_
  refine rg_put (d := 4) (v := .d (.fl (.bool false))) rfl (og rfl (op_assign rfl rfl rfl)) ?_
  refine rg_done rfl ?_
  refine a_seq ?_
  refine a_rseq ?_
  refine rg_put (d := 6) (v := .d (.sl 1 (List.map (rL 11 eSen) F))) rfl (og rfl (op_move rfl rfl rfl)) ?_
  refine rg_put (d := 7) (v := .d (.fl (.int .i64 (F.length : Int)))) rfl (og rfl (s_len rfl Try.underlying24 rfl rfl)) ?_
  refine rg_put (d := 8) (v := .d (.sl 1 (List.map (rL 11 eSen) F))) rfl (og rfl (op_move rfl rfl rfl)) ?_
  refine rg_put (d := 9) (v := .d (.fl (.int .i64 (F.length : Int)))) rfl (og rfl (s_len rfl Try.underlying24 rfl rfl)) ?_
  refine rg_put (d := 10) (v := .d (.fl (.bool (((F.length : Int) != (F.length : Int)))))) rfl (og rfl (op_bin rfl rfl rfl (b_neq _ _ _ _) rfl)) ?_
  refine rg_done rfl ?_
  refine a_condF rfl (bne_self_eq_false _) ?_
  refine a_skip ?_
  show A _ _ _ _ _ _ _
  refine a_seq ?_
  refine a_rseq ?_
  refine rg_put (d := 5) (v := .d (.fl (.int .i64 0))) rfl (og rfl (op_assign rfl rfl rfl)) ?_
  refine rg_done rfl ?_
  refine a_block ?_
  refine a_loop (ι := Nat) (fun k => SS [(0, .d (.sl 1 (List.map (rL 11 eSen) F))), (1, .d (.sl 1 (List.map (rL 11 eSen) F))), (10, .d (.fl (.bool (((F.length : Int) != (F.length : Int)))))), (5, .d (.fl (.int .i64 (k : Int))))] []) (fun k => k ≤ F.length) (fun k => F.length - k) 0 (by omega) (imp_forget rfl ⟨rfl, rfl, rfl, rfl, trivial⟩ trivial) (fun k hok => ?_)
  have hk := hok
  refine a_seq ?_
  refine a_rseq ?_
  refine rg_put (d := 11) (v := .d (.fl (.int .i64 (k : Int)))) rfl (og rfl (op_move rfl rfl rfl)) ?_
  refine rg_put (d := 12) (v := .d (.sl 1 (List.map (rL 11 eSen) F))) rfl (og rfl (op_move rfl rfl rfl)) ?_
  refine rg_put (d := 13) (v := .d (.fl (.int .i64 (F.length : Int)))) rfl (og rfl (s_len rfl Try.underlying24 rfl rfl)) ?_
  refine rg_put (d := 14) (v := .d (.fl (.bool ((decide ((k : Int) < (F.length : Int))))))) rfl (og rfl (op_bin rfl rfl rfl (b_lss _ _ _ _) rfl)) ?_
  refine rg_done rfl ?_
  refine a_cond rfl (fun h1 => ?_) (fun h1 => ?_)
  · skip
    have h2 := t_dec h1
    refine a_skip ?_
    show A _ _ _ _ _ _ _
    refine a_seq ?_
    refine a_block ?_
    refine a_dseq (by kernel_rfl) ?_
    refine dr_put (d := 17) (v := .d (.sl 1 (List.map (rL 11 eSen) F))) rfl (og rfl (op_move rfl rfl rfl)) ?_
    refine dr_put (d := 18) (v := .d (.fl (.int .i64 (k : Int)))) rfl (og rfl (op_move rfl rfl rfl)) ?_
    refine dr_put (d := 19) (v := .el (((rL 11 eSen) (ix F k)))) rfl (og rfl (s_index rfl Try.underlying24 ti22 rfl rfl (by omega) (row_at (by omega)) rfl)) ?_
    refine dr_put (d := 20) (v := .d (.sl 11 (List.map eSen (ix F k)))) rfl (og rfl (op_load_el rfl Try.underlying22 rfl rfl rfl rfl)) ?_
    refine dr_put (d := 21) (v := .d (.sl 1 (List.map (rL 11 eSen) F))) rfl (og rfl (op_move rfl rfl rfl)) ?_
    refine dr_put (d := 22) (v := .d (.fl (.int .i64 (k : Int)))) rfl (og rfl (op_move rfl rfl rfl)) ?_
    refine dr_put (d := 23) (v := .el (((rL 11 eSen) (ix F k)))) rfl (og rfl (s_index rfl Try.underlying24 ti22 rfl rfl (by omega) (row_at (by omega)) rfl)) ?_
    refine dr_put (d := 24) (v := .d (.sl 11 (List.map eSen (ix F k)))) rfl (og rfl (op_load_el rfl Try.underlying22 rfl rfl rfl rfl)) ?_
    refine dr_put (d := 25) (v := .d (.fl (.bool true))) rfl (og rfl (op_call rfl Try.func20 nm20 rfl (.cons rfl (.d _) (.cons rfl (.d _) .nil)) (saC (ix F k) (hR _ (ix_mem (by omega)))) rfl)) ?_
    refine dr_put (d := 26) (v := .d (.fl (.bool (!true)))) rfl (og rfl (op_un rfl rfl (u_not _) rfl)) ?_
    refine dr_done rfl (by kernel_rfl) (by kernel_rfl) ?_
    refine a_condF rfl rfl ?_
    refine a_skip ?_
    show A _ _ _ _ _ _ _
    refine a_region ?_
    refine rg_put (d := 15) (v := .d (.fl (.int .i64 (k : Int)))) rfl (og rfl (op_move rfl rfl rfl)) ?_
    refine rg_put (d := 16) (v := .d (.fl (.int .i64 (((k : Int) + 1))))) rfl (og rfl (op_bin rfl rfl rfl (fun x y w => b_add64 _ _ _ x y w (by omega)) rfl)) ?_
    refine rg_put (d := 5) (v := .d (.fl (.int .i64 (((k : Int) + 1))))) rfl (og rfl (op_assign rfl rfl rfl)) ?_
    refine rg_done rfl ?_
    show ∃ i, _ ∧ _ ∧ Imp _ _ _ _ _
    refine ⟨k + 1, (by omega), by omega, imp_forget rfl ⟨rfl, rfl, rfl, (ci (by omega)), trivial⟩ trivial⟩
  · skip
    have h3 := f_dec h1
    refine a_exit ?_
    show A _ _ _ _ _ _ _
    refine a_rseq ?_
    refine rg_put (d := 4) (v := .d (.fl (.bool true))) rfl (og rfl (op_assign rfl rfl rfl)) ?_
    refine rg_done rfl ?_
    refine a_ret ?_
    show ∃ ds, ResL _ _ _ ds ∧ RV.of ds = _
    refine ⟨[.fl (.bool true)], (.cons (.tmp rfl (.d _)) .nil), ?_⟩
    rfl
set_option maxHeartbeats 4000000 in
set_option maxRecDepth 100000 in
theorem law8 (l : List Sen) (gap : Int) : Ctr Try.prog 8 [.sl 11 (List.map eSen l), .fl (.int .i64 gap)] (.d (.fl (.bool (true)))) := by
  refine ctr (n := 57) (rs := #[.tmp 4]) (L := [(0, .d (.sl 11 (List.map eSen l))), (1, .d (.fl (.int .i64 gap)))]) Try.func8 rfl rfl rfl rfl rfl (fun w0 U0 => ?_)
  refine a_rseq ?_
  refine rg_put (d := 4) (v := .d (.fl (.bool false))) rfl (og rfl (op_assign rfl rfl rfl)) ?_
  refine rg_done rfl ?_
  refine a_seq ?_
  refine a_rseq ?_
  refine rg_put (d := 9) (v := .d (.sl 11 (List.map eSen l))) rfl (og rfl (op_move rfl rfl rfl)) ?_
  refine rg_put (d := 10) (v := .d (.fl (.int .i64 (l.length : Int)))) rfl (og rfl (s_len rfl Try.underlying22 rfl rfl)) ?_
  refine rg_put (d := 11) (v := .d (.fl (.bool ((decide (40 < (l.length : Int))))))) rfl (og rfl (op_bin rfl rfl rfl (b_gtr _ _ _ _) rfl)) ?_
  refine rg_done rfl ?_
  refine a_cond rfl (fun h1 => ?_) (fun h1 => ?_)
  · skip
    have h2 := t_dec h1
    refine a_rseq ?_
    refine rg_put (d := 4) (v := .d (.fl (.bool true))) rfl (og rfl (op_assign rfl rfl rfl)) ?_
    refine rg_done rfl ?_
    refine a_ret ?_
    show ∃ ds, ResL _ _ _ ds ∧ RV.of ds = _
    refine ⟨[.fl (.bool true)], (.cons (.tmp rfl (.d _)) .nil), ?_⟩
    rfl
  · skip
    have h3 := f_dec h1
    refine a_skip ?_
    show A _ _ _ _ _ _ _
    refine a_rseq ?_
    refine rg_put (d := 5) (v := .d (.fl (.slice none 0 0))) rfl (og rfl (op_assign rfl rfl rfl)) ?_
    refine rg_done rfl ?_
    refine a_seq ?_
    refine a_rseq ?_
    refine rg_imp (imp_nilT 5 101 22 1 rfl rfl) ?_
    refine rg_imp (imp_leakT 5 101 (f := (rL 11 eSen)) (l := []) rfl rfl) ?_
    refine rg_put (d := 6) (v := .d (.fl (.int .i64 0))) rfl (og rfl (op_assign rfl rfl rfl)) ?_
    refine rg_done rfl ?_
    refine a_block ?_
    refine a_loop (ι := Nat) (fun i => SS [(0, .d (.sl 11 (List.map eSen l))), (1, .d (.fl (.int .i64 gap))), (11, .d (.fl (.bool ((decide (40 < (l.length : Int))))))), (6, .d (.fl (.int .i64 (i : Int)))), (5, .d (.sl 1 (List.map (rL 11 eSen) ((frm (l.take i) gap)))))] []) (fun i => i ≤ l.length) (fun i => l.length - i) 0 (by omega) (imp_forget rfl ⟨rfl, rfl, rfl, rfl, (congrArg (fun z => AV.d (.sl 1 (List.map (rL 11 eSen) z))) (frm_nil gap).symm), trivial⟩ trivial) (fun i hok => ?_)
    have hi := hok
    refine a_seq ?_
    refine a_rseq ?_
    refine rg_put (d := 12) (v := .d (.fl (.int .i64 (i : Int)))) rfl (og rfl (op_move rfl rfl rfl)) ?_
    refine rg_put (d := 13) (v := .d (.sl 11 (List.map eSen l))) rfl (og rfl (op_move rfl rfl rfl)) ?_
    refine rg_put (d := 14) (v := .d (.fl (.int .i64 (l.length : Int)))) rfl (og rfl (s_len rfl Try.underlying22 rfl rfl)) ?_
    refine rg_put (d := 15) (v := .d (.fl (.bool ((decide ((i : Int) < (l.length : Int))))))) rfl (og rfl (op_bin rfl rfl rfl (b_lss _ _ _ _) rfl)) ?_
    refine rg_done rfl ?_
    refine a_cond rfl (fun h4 => ?_) (fun h4 => ?_)
    · skip
      have h5 := t_dec h4
      refine a_skip ?_
      show A _ _ _ _ _ _ _
      refine a_seq ?_
      refine a_block ?_
      refine a_rseq ?_
      refine rg_put (d := 19) (v := .d (.sl 1 (List.map (rL 11 eSen) ((frm (l.take i) gap))))) rfl (og rfl (op_move rfl rfl rfl)) ?_
      refine rg_put (d := 20) (v := .d (.sl 11 (List.map eSen l))) rfl (og rfl (op_move rfl rfl rfl)) ?_
      refine rg_put (d := 21) (v := .d (.fl (.int .i64 (i : Int)))) rfl (og rfl (op_move rfl rfl rfl)) ?_
      refine rg_put (d := 22) (v := .el ((eSen (ix l i)))) rfl (og rfl (s_index rfl Try.underlying22 ti31 rfl rfl (by omega) (row_at (by omega)) rfl)) ?_
      refine rg_put (d := 23) (v := .d (.ag (eSen (ix l i)))) rfl (og rfl (of_eff (s_load_els rfl Try.underlying31 rfl ti31 rfl rfl rfl) rfl)) ?_
      refine rg_put (d := 24) (v := .d (.fl (.int .i64 gap))) rfl (og rfl (op_move rfl rfl rfl)) ?_
      refine rg_put (d := 25) (v := .tu [.sl 1 (List.map (rL 11 eSen) ((frm (((frm (l.take i) gap)).flatten ++ [(ix l i)]) gap))), .fl (.int .i64 ((ixF (frm (((frm (l.take i) gap)).flatten ++ [(ix l i)]) gap) (ix l i))))]) rfl (og rfl (op_call rfl Try.func24 nm24 rfl (.cons rfl (.d _) (.cons rfl (.d _) (.cons rfl (.d _) .nil))) (ins24 ((frm (l.take i) gap)) (ix l i) gap (by have := frm_len (l.take i) gap; rw [List.length_take] at this; omega) (by rw [frm_fl_len, List.length_take]; omega)) rfl)) ?_
      refine rg_put (d := 18) (v := .tu [.sl 1 (List.map (rL 11 eSen) ((frm (((frm (l.take i) gap)).flatten ++ [(ix l i)]) gap))), .fl (.int .i64 ((ixF (frm (((frm (l.take i) gap)).flatten ++ [(ix l i)]) gap) (ix l i))))]) rfl (og rfl (op_move rfl rfl rfl)) ?_
      refine rg_put (d := 26) (v := .d (.sl 1 (List.map (rL 11 eSen) ((frm (((frm (l.take i) gap)).flatten ++ [(ix l i)]) gap))))) rfl (og rfl (op_extract rfl rfl rfl rfl)) ?_
      refine rg_put (d := 27) (v := .d (.fl (.int .i64 ((ixF (frm (((frm (l.take i) gap)).flatten ++ [(ix l i)]) gap) (ix l i)))))) rfl (og rfl (op_extract rfl rfl rfl rfl)) ?_
      refine rg_put (d := 7) (v := .d (.sl 1 (List.map (rL 11 eSen) ((frm (((frm (l.take i) gap)).flatten ++ [(ix l i)]) gap))))) rfl (og rfl (op_assign rfl rfl rfl)) ?_
      refine rg_put (d := 8) (v := .d (.fl (.int .i64 ((ixF (frm (((frm (l.take i) gap)).flatten ++ [(ix l i)]) gap) (ix l i)))))) rfl (og rfl (op_assign rfl rfl rfl)) ?_
      refine rg_done rfl ?_
      refine a_seq ?_
      refine a_dseq (by kernel_rfl) ?_
      rw [show (frm (((frm (l.take i) gap)).flatten ++ [(ix l i)]) gap) = (frm (l.take (i + 1)) gap) from ins_eq (by omega)]
      obtain ⟨ha1, ha2, ha3⟩ := ins_at (l := l) (gap := gap) (i := i) (by omega)
      refine dr_put (d := 28) (v := .d (.fl (.int .i64 ((ixF (frm (l.take (i + 1)) gap) (ix l i)))))) rfl (og rfl (op_move rfl rfl rfl)) ?_
      refine dr_put (d := 29) (v := .d (.fl (.bool ((decide ((ixF (frm (l.take (i + 1)) gap) (ix l i)) < 0)))))) rfl (og rfl (op_bin rfl rfl rfl (b_lss _ _ _ _) rfl)) ?_
      refine dr_put (d := 30) (v := .d (.fl (.bool ((decide ((ixF (frm (l.take (i + 1)) gap) (ix l i)) < 0)))))) rfl (og rfl (op_move rfl rfl rfl)) ?_
      refine dr_put (d := 31) (v := .d (.fl (.int .i64 ((ixF (frm (l.take (i + 1)) gap) (ix l i)))))) rfl (oy rfl rfl rfl (show (decide ((ixF (frm (l.take (i + 1)) gap) (ix l i)) < 0)) = false from decide_eq_false (by omega)) (op_move rfl rfl rfl)) ?_
      refine dr_put (d := 32) (v := .d (.sl 1 (List.map (rL 11 eSen) ((frm (l.take (i + 1)) gap))))) rfl (oy rfl rfl rfl (show (decide ((ixF (frm (l.take (i + 1)) gap) (ix l i)) < 0)) = false from decide_eq_false (by omega)) (op_move rfl rfl rfl)) ?_
      refine dr_put (d := 33) (v := .d (.fl (.int .i64 ((((frm (l.take (i + 1)) gap)).length : Int))))) rfl (oy rfl rfl rfl (show (decide ((ixF (frm (l.take (i + 1)) gap) (ix l i)) < 0)) = false from decide_eq_false (by omega)) (s_len rfl Try.underlying24 rfl rfl)) ?_
      refine dr_put (d := 34) (v := .d (.fl (.bool ((decide ((((frm (l.take (i + 1)) gap)).length : Int) ≤ (ixF (frm (l.take (i + 1)) gap) (ix l i)))))))) rfl (oy rfl rfl rfl (show (decide ((ixF (frm (l.take (i + 1)) gap) (ix l i)) < 0)) = false from decide_eq_false (by omega)) (op_bin rfl rfl rfl (b_geq _ _ _ _) rfl)) ?_
      refine dr_put (d := 35) (v := .d (.fl (.bool ((decide ((((frm (l.take (i + 1)) gap)).length : Int) ≤ (ixF (frm (l.take (i + 1)) gap) (ix l i)))))))) rfl (og rfl (op_pick rfl rfl (by rw [(show (decide ((ixF (frm (l.take (i + 1)) gap) (ix l i)) < 0)) = false from decide_eq_false (by omega))]; rfl) rfl)) ?_
      refine dr_put (d := 36) (v := .d (.fl (.bool ((decide ((((frm (l.take (i + 1)) gap)).length : Int) ≤ (ixF (frm (l.take (i + 1)) gap) (ix l i)))))))) rfl (og rfl (op_move rfl rfl rfl)) ?_
      refine dr_put (d := 37) (v := .d (.sl 1 (List.map (rL 11 eSen) ((frm (l.take (i + 1)) gap))))) rfl (oy rfl rfl rfl (show (decide ((((frm (l.take (i + 1)) gap)).length : Int) ≤ (ixF (frm (l.take (i + 1)) gap) (ix l i)))) = false from decide_eq_false (by omega)) (op_move rfl rfl rfl)) ?_
      refine dr_put (d := 38) (v := .d (.fl (.int .i64 ((ixF (frm (l.take (i + 1)) gap) (ix l i)))))) rfl (oy rfl rfl rfl (show (decide ((((frm (l.take (i + 1)) gap)).length : Int) ≤ (ixF (frm (l.take (i + 1)) gap) (ix l i)))) = false from decide_eq_false (by omega)) (op_move rfl rfl rfl)) ?_
      refine dr_put (d := 39) (v := .el (((rL 11 eSen) ((ix ((frm (l.take (i + 1)) gap)) ((ixF (frm (l.take (i + 1)) gap) (ix l i))).toNat))))) rfl (oy rfl rfl rfl (show (decide ((((frm (l.take (i + 1)) gap)).length : Int) ≤ (ixF (frm (l.take (i + 1)) gap) (ix l i)))) = false from decide_eq_false (by omega)) (s_index rfl Try.underlying24 ti22 rfl rfl (by omega) (row_atI (by omega) (by omega)) rfl)) ?_
      refine dr_put (d := 40) (v := .d (.sl 11 (List.map eSen ((ix ((frm (l.take (i + 1)) gap)) ((ixF (frm (l.take (i + 1)) gap) (ix l i))).toNat))))) rfl (oy rfl rfl rfl (show (decide ((((frm (l.take (i + 1)) gap)).length : Int) ≤ (ixF (frm (l.take (i + 1)) gap) (ix l i)))) = false from decide_eq_false (by omega)) (op_load_el rfl Try.underlying22 rfl rfl rfl rfl)) ?_
      refine dr_put (d := 41) (v := .d (.sl 11 (List.map eSen l))) rfl (oy rfl rfl rfl (show (decide ((((frm (l.take (i + 1)) gap)).length : Int) ≤ (ixF (frm (l.take (i + 1)) gap) (ix l i)))) = false from decide_eq_false (by omega)) (op_move rfl rfl rfl)) ?_
      refine dr_put (d := 42) (v := .d (.fl (.int .i64 (i : Int)))) rfl (oy rfl rfl rfl (show (decide ((((frm (l.take (i + 1)) gap)).length : Int) ≤ (ixF (frm (l.take (i + 1)) gap) (ix l i)))) = false from decide_eq_false (by omega)) (op_move rfl rfl rfl)) ?_
      refine dr_put (d := 43) (v := .el ((eSen (ix l i)))) rfl (oy rfl rfl rfl (show (decide ((((frm (l.take (i + 1)) gap)).length : Int) ≤ (ixF (frm (l.take (i + 1)) gap) (ix l i)))) = false from decide_eq_false (by omega)) (s_index rfl Try.underlying22 ti31 rfl rfl (by omega) (row_at (by omega)) rfl)) ?_
      refine dr_put (d := 44) (v := .d (.ag (eSen (ix l i)))) rfl (oy rfl rfl rfl (show (decide ((((frm (l.take (i + 1)) gap)).length : Int) ≤ (ixF (frm (l.take (i + 1)) gap) (ix l i)))) = false from decide_eq_false (by omega)) (of_eff (s_load_els rfl Try.underlying31 rfl ti31 rfl rfl rfl) rfl)) ?_
      refine dr_put (d := 45) (v := .d (.fl (.int .i64 ((cnt ((ix ((frm (l.take (i + 1)) gap)) ((ixF (frm (l.take (i + 1)) gap) (ix l i))).toNat)) (ix l i)))))) rfl (oy rfl rfl rfl (show (decide ((((frm (l.take (i + 1)) gap)).length : Int) ≤ (ixF (frm (l.take (i + 1)) gap) (ix l i)))) = false from decide_eq_false (by omega)) (op_call rfl Try.func27 nm27 rfl (.cons rfl (.d _) (.cons rfl (.d _) .nil)) (cntC ((ix ((frm (l.take (i + 1)) gap)) ((ixF (frm (l.take (i + 1)) gap) (ix l i))).toNat)) (ix l i) (by have h8 := (frm_run (ix_mem (by omega : (ixF (frm (l.take (i + 1)) gap) (ix l i)).toNat < (frm (l.take (i + 1)) gap).length))).2; rw [List.length_take] at h8; omega)) rfl)) ?_
      refine dr_put (d := 46) (v := .d (.fl (.bool (((cnt ((ix ((frm (l.take (i + 1)) gap)) ((ixF (frm (l.take (i + 1)) gap) (ix l i))).toNat)) (ix l i)) == 0))))) rfl (oy rfl rfl rfl (show (decide ((((frm (l.take (i + 1)) gap)).length : Int) ≤ (ixF (frm (l.take (i + 1)) gap) (ix l i)))) = false from decide_eq_false (by omega)) (op_bin rfl rfl rfl (b_eql _ _ _ _) rfl)) ?_
      refine dr_put (d := 47) (v := .d (.fl (.bool (((cnt ((ix ((frm (l.take (i + 1)) gap)) ((ixF (frm (l.take (i + 1)) gap) (ix l i))).toNat)) (ix l i)) == 0))))) rfl (og rfl (op_pick rfl rfl (by rw [(show (decide ((((frm (l.take (i + 1)) gap)).length : Int) ≤ (ixF (frm (l.take (i + 1)) gap) (ix l i)))) = false from decide_eq_false (by omega))]; rfl) rfl)) ?_
      refine dr_done rfl (sepB_of [0, 1, 3, 7, 7, 23, 63, 127, 255, 511, 511, 2047, 4095, 511, 511, 25087, 57855, 131071, 262143, 524287] (by kernel_rfl)) (by kernel_rfl) ?_
      refine a_condF rfl (show (((cnt ((ix ((frm (l.take (i + 1)) gap)) ((ixF (frm (l.take (i + 1)) gap) (ix l i))).toNat)) (ix l i)) == 0)) = false from by rw [beq_eq_false_iff_ne]; omega) ?_
      refine a_skip ?_
      show A _ _ _ _ _ _ _
      refine a_region ?_
      refine rg_put (d := 48) (v := .d (.sl 1 (List.map (rL 11 eSen) ((frm (l.take (i + 1)) gap))))) rfl (og rfl (op_move rfl rfl rfl)) ?_
      refine rg_put (d := 5) (v := .d (.sl 1 (List.map (rL 11 eSen) ((frm (l.take (i + 1)) gap))))) rfl (og rfl (op_assign rfl rfl rfl)) ?_
      refine rg_done rfl ?_
      show A _ _ _ _ _ _ _
      refine a_region ?_
      refine rg_put (d := 16) (v := .d (.fl (.int .i64 (i : Int)))) rfl (og rfl (op_move rfl rfl rfl)) ?_
      refine rg_put (d := 17) (v := .d (.fl (.int .i64 (((i : Int) + 1))))) rfl (og rfl (op_bin rfl rfl rfl (fun x y w => b_add64 _ _ _ x y w (by omega)) rfl)) ?_
      refine rg_put (d := 6) (v := .d (.fl (.int .i64 (((i : Int) + 1))))) rfl (og rfl (op_assign rfl rfl rfl)) ?_
      refine rg_done rfl ?_
      show ∃ i, _ ∧ _ ∧ Imp _ _ _ _ _
      refine ⟨i + 1, (by omega), by omega, imp_forget rfl ⟨rfl, rfl, rfl, (ci (by omega)), rfl, trivial⟩ trivial⟩
    · skip
      have h6 := f_dec h4
      refine a_exit ?_
      show A _ _ _ _ _ _ _
      refine a_rseq ?_
      rw [show (l.take i) = l from by rw [show i = l.length by omega, List.take_length]]
      refine rg_put (d := 49) (v := .d (.sl 1 (List.map (rL 11 eSen) (frm l gap)))) rfl (og rfl (op_move rfl rfl rfl)) ?_
      refine rg_put (d := 50) (v := .d (.sl 11 (List.map eSen l))) rfl (og rfl (op_move rfl rfl rfl)) ?_
      refine rg_put (d := 51) (v := .d (.fl (.int .i64 gap))) rfl (og rfl (op_move rfl rfl rfl)) ?_
      refine rg_put (d := 52) (v := .d (.sl 1 (List.map (rL 11 eSen) (frm l gap)))) rfl (og rfl (op_call rfl Try.func11 nm11 rfl (.cons rfl (.d _) (.cons rfl (.d _) .nil)) (frm11 l gap (by omega)) rfl)) ?_
      refine rg_put (d := 53) (v := .d (.fl (.bool true))) rfl (og rfl (op_call rfl Try.func10 nm10 rfl (.cons rfl (.d _) (.cons rfl (.d _) .nil)) (sfC (frm l gap) (by have := frm_len l gap; omega) (fun r hr => by have := (frm_run hr).2; omega)) rfl)) ?_
      refine rg_put (d := 54) (v := .d (.fl (.bool true))) rfl (og rfl (op_move rfl rfl rfl)) ?_
      refine rg_put (d := 55) (v := .d (.fl (.bool true))) rfl (oy rfl rfl rfl rfl (op_call rfl Try.func13 nm13 rfl .nil alive13 rfl)) ?_
      refine rg_put (d := 56) (v := .d (.fl (.bool true))) rfl (og rfl (op_pick rfl rfl rfl rfl)) ?_
      refine rg_put (d := 4) (v := .d (.fl (.bool true))) rfl (og rfl (op_assign rfl rfl rfl)) ?_
      refine rg_done rfl ?_
      refine a_ret ?_
      show ∃ ds, ResL _ _ _ ds ∧ RV.of ds = _
      refine ⟨[.fl (.bool true)], (.cons (.tmp rfl (.d _)) .nil), ?_⟩
      rfl
end Go.Proofs.Ytipkielpicfobaa.Wk
