/- Chains. Condition: packages of a possible size. -/
import Derived.Test.YtaecdkhpidligaaB4
set_option linter.unusedSimpArgs false
set_option linter.unusedVariables false
namespace Go.Proofs.Ytaecdkhpidligaa.Wk
open Go Go.RowKit Go.Proofs.Ytaecdkhpidligaa.Av
theorem wrap_in (a : Int) : 0 ≤ IntKind.u64.wrap a ∧ IntKind.u64.wrap a ≤ 18446744073709551615 := by rw [IntKind.wrap_u64]; omega
theorem hsh_in (l : List Int) : 0 ≤ hsh l ∧ hsh l ≤ 18446744073709551615 := by
  unfold hsh
  cases l.length with
  | zero => exact (by decide : (0 : Int) ≤ 14695981039346656037 ∧ (14695981039346656037 : Int) ≤ 18446744073709551615)
  | succ k => rw [hs_succ]; exact wrap_in _
theorem jn_in (a b : Int) : 0 ≤ jn a b ∧ jn a b ≤ 18446744073709551615 := hsh_in _
def cl (x : Int) (L : List (List Int)) : Nat → Int
  | 0 => x
  | k + 1 => jn (cl x L k) (hsh (ix L k))
def co (x : Int) (L : List (List Int)) : Nat → List Int
  | 0 => []
  | k + 1 => co x L k ++ [cl x L (k + 1)]
def chn (x : Int) (L : List (List Int)) : List Int := co x L L.length
theorem cl_in {x : Int} {L : List (List Int)} (h : 0 ≤ x ∧ x ≤ 18446744073709551615) : ∀ k, 0 ≤ cl x L k ∧ cl x L k ≤ 18446744073709551615
  | 0 => h
  | k + 1 => jn_in _ _
theorem co_len (x : Int) (L : List (List Int)) : ∀ k, (co x L k).length = k
  | 0 => rfl
  | k + 1 => by show (co x L k ++ [cl x L (k + 1)]).length = k + 1; rw [List.length_append, co_len x L k]; rfl
theorem chn_len (x : Int) (L : List (List Int)) : (chn x L).length = L.length := co_len _ _ _
theorem dmap {α β : Type} [Inhabited α] {f : α → β} {l : List α} {k : Nat} (h : k < l.length) : (l.take k).map f ++ [f (ix l k)] = (l.take (k + 1)).map f := by rw [take_ix h, List.map_append]; rfl
def fits (id : ByteArray) (l : List Im) : List Int := chn (hsh (bys id)) (l.map dsc)
theorem fits_len (id : ByteArray) (l : List Im) : (fits id l).length = l.length := by unfold fits; rw [chn_len, List.length_map]
theorem dsc_all {l : List Im} (h : ∀ im ∈ l, Okd im) : ∀ b ∈ l.map dsc, b.length ≤ 200000 := by
  intro b hb
  obtain ⟨im, hi, rfl⟩ := List.mem_map.1 hb
  have := dsc_len (h im hi)
  omega
structure Okp (p : Pk) : Prop where
  c : p.case.size ≤ 1000
  l : p.images.length ≤ 2000
  n : p.chain.length ≤ 100000
  o : ∀ im ∈ p.images, Okd im
  u : ∀ x ∈ p.chain, 0 ≤ x ∧ x ≤ 18446744073709551615
theorem Okp.z {p : Pk} (h : Okp p) : ∀ im ∈ p.images, im.hold.length < 9223372036854775807 := fun im hi => by have := (h.o im hi).l; omega

set_option maxHeartbeats 4000000 in
set_option maxRecDepth 100000 in
theorem chain53 (x : Int) (L : List (List Int)) (hx : (0 ≤ x ∧ x ≤ 18446744073709551615)) (hl : L.length ≤ 100000) (hL : ∀ b ∈ L, b.length ≤ 200000) : Ctr Try.prog 28 [.fl (.int .u64 x), .sl 1 (List.map (rL 1 (rI .u8)) L)] (.d (.sl 1 (List.map (rI .u64) (chn x L)))) := by
  refine ctr (n := 27) (rs := #[.tmp 4]) (L := [(0, .d (.fl (.int .u64 x))), (1, .d (.sl 1 (List.map (rL 1 (rI .u8)) L)))]) Try.func28 rfl rfl rfl rfl rfl (fun w0 U0 => ?_)
  refine a_rseq ?_
  refine rg_put (d := 4) (v := .d (.fl (.slice none 0 0))) rfl (og rfl (op_assign rfl rfl rfl)) ?_
  refine rg_done rfl ?_
  refine a_rseq ?_
  refine rg_put (d := 8) (v := .d (.sl 1 (List.map (rL 1 (rI .u8)) L))) rfl (og rfl (op_move rfl rfl rfl)) ?_
  refine rg_put (d := 9) (v := .d (.fl (.int .i64 (L.length : Int)))) rfl (og rfl (s_len rfl Try.underlying66 rfl rfl)) ?_
  refine rg_nam (d := 10) (v := .ow 101) (m := 101) (nw := [(101, .tr 38 1 (tD (rI .u64) []))]) rfl (og rfl (of_eff (op_make0 101 rfl Try.underlying27 ti38 rfl rfl (by omega) (by omega) (by omega) rfl) rfl)) rfl ?_
  refine rg_put (d := 5) (v := .ow 101) rfl (og rfl (op_assign rfl rfl rfl)) ?_
  refine rg_done rfl ?_
  refine a_seq ?_
  refine a_rseq ?_
  refine rg_put (d := 11) (v := .d (.sl 1 (List.map (rL 1 (rI .u8)) L))) rfl (og rfl (op_move rfl rfl rfl)) ?_
  refine rg_put (d := 12) (v := .d (.fl (.int .i64 (L.length : Int)))) rfl (og rfl (s_len rfl Try.underlying66 rfl rfl)) ?_
  refine rg_put (d := 13) (v := .d (.fl (.int .i64 0))) rfl (og rfl (op_move rfl rfl rfl)) ?_
  refine rg_done rfl ?_
  refine a_block ?_
  refine a_loop (ι := Nat) (fun k => SS [(1, .d (.sl 1 (List.map (rL 1 (rI .u8)) L))), (4, .d (.fl (.slice none 0 0))), (11, .d (.sl 1 (List.map (rL 1 (rI .u8)) L))), (12, .d (.fl (.int .i64 (L.length : Int)))), (13, .d (.fl (.int .i64 (k : Int)))), (0, .d (.fl (.int .u64 (cl x L k)))), (5, .ow 101)] [(101, .tr 38 1 (tD (rI .u64) (co x L k)))]) (fun k => k ≤ L.length) (fun k => L.length - k) 0 (by omega) (imp_forget rfl ⟨rfl, rfl, rfl, rfl, (by first | rfl | exact ci (by omega) | exact ci (by simp) | exact cd (by simp) | simp), (by first | rfl | exact ci (by omega) | exact ci (by simp) | exact cd (by simp) | simp), (by first | rfl | exact ci (by omega) | exact ci (by simp) | exact cd (by simp) | simp), trivial⟩ ⟨(by first | rfl | simp), trivial⟩) (fun k hok => ?_)
  have hk := hok
  have hcl := co_len x L k
  refine a_rseq ?_
  refine rg_put (d := 14) (v := .d (.fl (.bool ((decide ((k : Int) < (L.length : Int))))))) rfl (og rfl (op_bin rfl rfl rfl (b_lss _ _ _ _) rfl)) ?_
  refine rg_done rfl ?_
  refine a_seq ?_
  refine a_cond rfl (fun h1 => ?_) (fun h1 => ?_)
  · skip
    have h2 := t_dec h1
    refine a_skip ?_
    show A _ _ _ _ _ _ _
    refine a_seq ?_
    refine a_block ?_
    refine a_rseq ?_
    refine rg_put (d := 15) (v := .el (((rL 1 (rI .u8)) (ix L k)))) rfl (og rfl (s_index rfl Try.underlying66 ti67 rfl rfl (by omega) (row_at (by omega)) rfl)) ?_
    refine rg_put (d := 16) (v := .d (.sl 1 (List.map (rI .u8) (ix L k)))) rfl (og rfl (op_load_el rfl Try.underlying67 rfl rfl rfl rfl)) ?_
    refine rg_put (d := 7) (v := .d (.sl 1 (List.map (rI .u8) (ix L k)))) rfl (og rfl (op_assign rfl rfl rfl)) ?_
    refine rg_done rfl ?_
    refine a_rseq ?_
    refine rg_put (d := 17) (v := .d (.fl (.int .u64 (cl x L k)))) rfl (og rfl (op_move rfl rfl rfl)) ?_
    refine rg_put (d := 18) (v := .d (.sl 1 (List.map (rI .u8) (ix L k)))) rfl (og rfl (op_move rfl rfl rfl)) ?_
    refine rg_put (d := 19) (v := .d (.fl (.int .u64 ((hsh (ix L k)))))) rfl (og rfl (op_call rfl Try.func29 nm29 rfl (.cons rfl (.d _) .nil) (dig_hash (ix L k) (by first | omega | (have := dsc_len hO; omega) | (rw [bys_len]; omega) | (have := hL _ (ix_mem (l := L) (k := k) (by omega)); omega))) rfl)) ?_
    refine rg_put (d := 20) (v := .d (.fl (.int .u64 ((jn (cl x L k) ((hsh (ix L k)))))))) rfl (og rfl (op_call rfl Try.func37 nm37 rfl (.cons rfl (.d _) (.cons rfl (.d _) .nil)) (join41 (cl x L k) ((hsh (ix L k))) (by first | exact hsh_in _ | exact cl_in hx _ | exact jn_in _ _ | omega) (by first | exact hsh_in _ | exact cl_in hx _ | exact jn_in _ _ | omega)) rfl)) ?_
    refine rg_put (d := 0) (v := .d (.fl (.int .u64 ((jn (cl x L k) ((hsh (ix L k)))))))) rfl (og rfl (op_assign rfl rfl rfl)) ?_
    refine rg_done rfl ?_
    refine a_region ?_
    refine rg_put (d := 21) (v := .ow 101) rfl (og rfl (op_move rfl rfl rfl)) ?_
    refine rg_put (d := 22) (v := .d (.fl (.int .u64 ((jn (cl x L k) ((hsh (ix L k)))))))) rfl (og rfl (op_move rfl rfl rfl)) ?_
    refine rg_put (d := 23) (v := .d (.sl 1 (List.map (rI .u64) [(jn (cl x L k) ((hsh (ix L k))))]))) rfl (og rfl (of_eff (op_slices rfl Try.underlying27 ti38 rfl rfl rfl (by kernel_rfl) (xs := [.fl (.int .u64 ((jn (cl x L k) ((hsh (ix L k))))))]) rfl rfl (.cons rfl rfl (.d _) rfl rfl rfl .nil) rfl) rfl)) ?_
    refine rg_nam (d := 24) (v := .ow 102) (m := 102) (nw := [(102, .tr 38 1 (tD (rI .u64) (((co x L k) ++ [(jn (cl x L k) ((hsh (ix L k))))])))), (101, .no)]) rfl (og rfl (of_eff (s_append_td 102 rfl Try.underlying27 ti38 rfl rfl rfl rfl rfl (.d _) (by rw [hcl]; simp only [List.length_cons, List.length_nil]; omega) rfl) rfl)) rfl ?_
    refine rg_put (d := 5) (v := .ow 102) rfl (og rfl (op_assign rfl rfl rfl)) ?_
    refine rg_done rfl ?_
    show A _ _ _ _ _ _ _
    refine a_region ?_
    refine rg_put (d := 25) (v := .d (.fl (.int .i64 (((k : Int) + 1))))) rfl (og rfl (op_bin rfl rfl rfl (fun x y w => b_add64 _ _ _ x y w (by omega)) rfl)) ?_
    refine rg_put (d := 13) (v := .d (.fl (.int .i64 (((k : Int) + 1))))) rfl (og rfl (op_move rfl rfl rfl)) ?_
    refine rg_done rfl ?_
    show ∃ i, _ ∧ _ ∧ Imp _ _ _ _ _
    refine ⟨k + 1, by omega, by omega, imp_ren (fun m => bif Nat.beq m 101 then 102 else m) rfl ⟨rfl, rfl, rfl, rfl, (by first | rfl | exact ci (by omega) | exact ci (by simp) | exact cd (by simp) | simp), rfl, rfl, trivial⟩ ⟨rfl, trivial⟩⟩
  · skip
    have h3 := f_dec h1
    refine a_exit ?_
    show A _ _ _ _ _ _ _
    refine a_rseq ?_
    refine rg_put (d := 26) (v := .ow 101) rfl (og rfl (op_move rfl rfl rfl)) ?_
    refine rg_put (d := 4) (v := .ow 101) rfl (og rfl (op_assign rfl rfl rfl)) ?_
    refine rg_done rfl ?_
    refine a_imp (imp_leakT 4 101 rfl rfl) ?_
    refine a_ret ?_
    show ∃ ds, ResL _ _ _ ds ∧ RV.of ds = _
    refine ⟨[.sl 1 (List.map (rI .u64) (co x L k))], (.cons (.tmp rfl (.d _)) .nil), ?_⟩
    have hkl : k = L.length := by omega
    subst hkl
    rfl
set_option maxHeartbeats 4000000 in
set_option maxRecDepth 100000 in
theorem fits35 (id : ByteArray) (l : List Im) (hid : id.size ≤ 1000) (hl : l.length ≤ 3000) (hO : ∀ im ∈ l, Okd im) : Ctr Try.prog 14 [.fl (.string id), .sl 5 (List.map eIm l)] (.d (.sl 1 (List.map (rI .u64) (fits id l)))) := by
  refine ctr (n := 25) (rs := #[.tmp 4]) (L := [(0, .d (.fl (.string id))), (1, .d (.sl 5 (List.map eIm l)))]) Try.func14 rfl rfl rfl rfl rfl (fun w0 U0 => ?_)
  refine a_rseq ?_
  refine rg_put (d := 4) (v := .d (.fl (.slice none 0 0))) rfl (og rfl (op_assign rfl rfl rfl)) ?_
  refine rg_done rfl ?_
  refine a_rseq ?_
  refine rg_put (d := 5) (v := .d (.fl (.slice none 0 0))) rfl (og rfl (op_assign rfl rfl rfl)) ?_
  refine rg_done rfl ?_
  refine a_seq ?_
  refine a_rseq ?_
  refine rg_put (d := 8) (v := .d (.sl 5 (List.map eIm l))) rfl (og rfl (op_move rfl rfl rfl)) ?_
  refine rg_put (d := 9) (v := .d (.fl (.int .i64 (l.length : Int)))) rfl (og rfl (s_len rfl Try.underlying23 rfl rfl)) ?_
  refine rg_put (d := 10) (v := .d (.fl (.int .i64 0))) rfl (og rfl (op_move rfl rfl rfl)) ?_
  refine rg_done rfl ?_
  refine a_block ?_
  refine a_loop (ι := Nat) (fun k => SS [(0, .d (.fl (.string id))), (1, .d (.sl 5 (List.map eIm l))), (4, .d (.fl (.slice none 0 0))), (8, .d (.sl 5 (List.map eIm l))), (9, .d (.fl (.int .i64 (l.length : Int)))), (10, .d (.fl (.int .i64 (k : Int)))), (5, .ow 700)] [(700, .tr 67 1 (tD (rL 1 (rI .u8)) (((l.take k).map dsc))))]) (fun k => k ≤ l.length) (fun k => l.length - k) 0 (by omega) (Imp.trans (imp_nilT 5 700 67 1 rfl rfl) (imp_forget rfl ⟨rfl, rfl, rfl, rfl, rfl, (by first | rfl | exact ci (by omega) | exact ci (by simp) | exact cd (by simp) | simp), (by first | rfl | exact ci (by omega) | exact ci (by simp) | exact cd (by simp) | simp), trivial⟩ ⟨(by first | rfl | simp), trivial⟩)) (fun k hok => ?_)
  have hk := hok
  refine a_rseq ?_
  refine rg_put (d := 11) (v := .d (.fl (.bool ((decide ((k : Int) < (l.length : Int))))))) rfl (og rfl (op_bin rfl rfl rfl (b_lss _ _ _ _) rfl)) ?_
  refine rg_done rfl ?_
  refine a_seq ?_
  refine a_cond rfl (fun h1 => ?_) (fun h1 => ?_)
  · skip
    have h2 := t_dec h1
    refine a_skip ?_
    show A _ _ _ _ _ _ _
    refine a_seq ?_
    refine a_block ?_
    refine a_rseq ?_
    refine rg_put (d := 12) (v := .el ((eIm (ix l k)))) rfl (og rfl (s_index rfl Try.underlying23 ti40 rfl rfl (by omega) (row_at (by omega)) rfl)) ?_
    refine rg_put (d := 13) (v := .d (.ag (eIm (ix l k)))) rfl (og rfl (of_eff (s_load_els rfl Try.underlying40 rfl ti40 rfl rfl rfl) rfl)) ?_
    refine rg_nam (d := 7) (v := .pt 101 0) (m := 101) (nw := [(101, .bx 40 ([.fl (.string (⟨#[]⟩)), .fl (.int .i64 0), .fl (.int .i64 0), .fl (.slice none 0 0), .fl (.int .u64 0)]))]) rfl (og rfl (of_eff (s_alloc 101 rfl ti40 (by kernel_rfl) rfl) rfl)) rfl ?_
    refine rg_sto (nw := [(101, .bx 40 ((eIm (ix l k))))]) rfl (og rfl (of_eff (s_store rfl rfl ti40 rfl rfl rfl rfl rfl rfl) rfl)) ?_
    refine rg_done rfl ?_
    refine a_region ?_
    refine rg_put (d := 14) (v := .ow 700) rfl (og rfl (op_move rfl rfl rfl)) ?_
    refine rg_put (d := 15) (v := .d (.ag (eIm (ix l k)))) rfl (og rfl (of_eff (s_load_pts rfl Try.underlying40 rfl ti40 rfl rfl rfl rfl) rfl)) ?_
    refine rg_put (d := 16) (v := .d (.sl 1 (List.map (rI .u8) ((dsc (ix l k)))))) rfl (og rfl (op_call rfl Try.func27 nm27 rfl (.cons rfl (.d _) .nil) (desc31 (ix l k) (hO _ (ix_mem (by omega)))) rfl)) ?_
    refine rg_put (d := 17) (v := .d (.sl 1 (List.map (rL 1 (rI .u8)) [(dsc (ix l k))]))) rfl (og rfl (of_eff (op_slices rfl Try.underlying66 ti67 rfl rfl rfl (by kernel_rfl) (xs := [.sl 1 (List.map (rI .u8) ((dsc (ix l k))))]) rfl rfl (.cons rfl rfl (.d _) rfl rfl rfl .nil) rfl) rfl)) ?_
    refine rg_nam (d := 18) (v := .ow 102) (m := 102) (nw := [(102, .tr 67 1 (tD (rL 1 (rI .u8)) ((((l.take k).map dsc) ++ [(dsc (ix l k))])))), (700, .no)]) rfl (og rfl (of_eff (s_append_td 102 rfl Try.underlying66 ti67 rfl rfl rfl rfl rfl (.d _) (by simp only [List.length_map, List.length_take, List.length_cons, List.length_nil]; omega) rfl) rfl)) rfl ?_
    rw [show (((l.take k).map dsc) ++ [(dsc (ix l k))]) = ((l.take (k + 1)).map dsc) from dmap (by omega)]
    refine rg_put (d := 5) (v := .ow 102) rfl (og rfl (op_assign rfl rfl rfl)) ?_
    refine rg_done rfl ?_
    show A _ _ _ _ _ _ _
    refine a_region ?_
    refine rg_put (d := 19) (v := .d (.fl (.int .i64 (((k : Int) + 1))))) rfl (og rfl (op_bin rfl rfl rfl (fun x y w => b_add64 _ _ _ x y w (by omega)) rfl)) ?_
    refine rg_put (d := 10) (v := .d (.fl (.int .i64 (((k : Int) + 1))))) rfl (og rfl (op_move rfl rfl rfl)) ?_
    refine rg_done rfl ?_
    show ∃ i, _ ∧ _ ∧ Imp _ _ _ _ _
    refine ⟨k + 1, by omega, by omega, imp_ren (fun m => bif Nat.beq m 700 then 102 else m) rfl ⟨rfl, rfl, rfl, rfl, rfl, (by first | rfl | exact ci (by omega) | exact ci (by simp) | exact cd (by simp) | simp), rfl, trivial⟩ ⟨(by first | rfl | simp), trivial⟩⟩
  · skip
    have h3 := f_dec h1
    refine a_exit ?_
    show A _ _ _ _ _ _ _
    have hkl : k = l.length := by omega
    rw [show ((l.take k).map dsc) = (l.map dsc) from by rw [hkl, List.take_length]]
    refine a_rseq ?_
    refine rg_put (d := 20) (v := .d (.fl (.string id))) rfl (og rfl (op_move rfl rfl rfl)) ?_
    refine rg_put (d := 21) (v := .d (.sl 1 (List.map (rI .u8) (bys id)))) rfl (og rfl (op_bytesOf rfl Try.underlying9 Try.underlying67 Try.underlying5 rfl (by omega) rfl)) ?_
    refine rg_put (d := 22) (v := .d (.fl (.int .u64 ((hsh (bys id)))))) rfl (og rfl (op_call rfl Try.func29 nm29 rfl (.cons rfl (.d _) .nil) (dig_hash (bys id) (by first | omega | (have := dsc_len hO; omega) | (rw [bys_len]; omega) | (have := hL _ (ix_mem (l := L) (k := k) (by omega)); omega))) rfl)) ?_
    refine rg_put (d := 23) (v := .ow 700) rfl (og rfl (op_move rfl rfl rfl)) ?_
    refine rg_imp (imp_leakT 23 700 rfl rfl) ?_
    refine rg_put (d := 24) (v := .d (.sl 1 (List.map (rI .u64) ((chn ((hsh (bys id))) (l.map dsc)))))) rfl (og rfl (op_call rfl Try.func28 nm28 rfl (.cons rfl (.d _) (.cons rfl (.d _) .nil)) (chain53 ((hsh (bys id))) (l.map dsc) (hsh_in _) (by rw [List.length_map]; omega) (dsc_all hO)) rfl)) ?_
    refine rg_put (d := 4) (v := .d (.sl 1 (List.map (rI .u64) ((chn ((hsh (bys id))) (l.map dsc)))))) rfl (og rfl (op_assign rfl rfl rfl)) ?_
    refine rg_done rfl ?_
    refine a_ret ?_
    show ∃ ds, ResL _ _ _ ds ∧ RV.of ds = _
    refine ⟨[.sl 1 (List.map (rI .u64) ((chn ((hsh (bys id))) (l.map dsc))))], (.cons (.tmp rfl (.d _)) .nil), ?_⟩
    rfl
set_option maxHeartbeats 4000000 in
set_option maxRecDepth 100000 in
theorem verify20 (p : Pk) (hP : Okp p) : Ctr Try.prog 9 [.ag (ePk p)] (.d (.fl (.bool (lEq p.chain (fits p.case p.images))))) := by
  have hc := hP.c
  have hl := hP.l
  have hn := hP.n
  have hO := hP.o
  refine ctr (n := 11) (rs := #[.tmp 2]) (L := [(0, .d (.ag (ePk p)))]) Try.func9 rfl rfl rfl rfl rfl (fun w0 U0 => ?_)
  refine a_rseq ?_
  refine rg_nam (d := 1) (v := .pt 101 0) (m := 101) (nw := [(101, .bx 29 (ePk p))]) rfl (og rfl (of_eff (op_box 101 rfl rfl rfl rfl) rfl)) rfl ?_
  refine rg_put (d := 2) (v := .d (.fl (.bool false))) rfl (og rfl (op_assign rfl rfl rfl)) ?_
  refine rg_done rfl ?_
  refine a_dseq (by kernel_rfl) ?_
  refine dr_put (d := 3) (v := .pt 101 2) rfl (og rfl (of_eff (s_field_pt rfl Try.underlying29 rfl ti27 rfl rfl rfl) rfl)) ?_
  refine dr_put (d := 4) (v := .d (.sl 1 (List.map (rI .u64) p.chain))) rfl (og rfl (op_load_pt rfl Try.underlying27 rfl rfl rfl rfl rfl)) ?_
  refine dr_put (d := 5) (v := .pt 101 0) rfl (og rfl (of_eff (s_field_pt rfl Try.underlying29 rfl ti9 rfl rfl rfl) rfl)) ?_
  refine dr_put (d := 6) (v := .d (.fl (.string p.case))) rfl (og rfl (op_load_pt rfl Try.underlying9 rfl rfl rfl rfl rfl)) ?_
  refine dr_put (d := 7) (v := .pt 101 1) rfl (og rfl (of_eff (s_field_pt rfl Try.underlying29 rfl ti23 rfl rfl rfl) rfl)) ?_
  refine dr_put (d := 8) (v := .d (.sl 5 (List.map eIm p.images))) rfl (og rfl (op_load_pt rfl Try.underlying23 rfl rfl rfl rfl rfl)) ?_
  refine dr_put (d := 9) (v := .d (.sl 1 (List.map (rI .u64) (fits p.case p.images)))) rfl (og rfl (op_call rfl Try.func14 nm14 rfl (.cons rfl (.d _) (.cons rfl (.d _) .nil)) (fits35 p.case p.images (by omega) (by first | omega | (simp only [List.length_append, List.length_cons, List.length_nil]; omega)) hO) rfl)) ?_
  refine dr_put (d := 10) (v := .d (.fl (.bool ((lEq p.chain (fits p.case p.images)))))) rfl (og rfl (op_call rfl Try.func22 nm22 rfl (.cons rfl (.d _) (.cons rfl (.d _) .nil)) (eqU43 p.chain (fits p.case p.images) (by first | omega | (simp only [List.length_take]; omega))) rfl)) ?_
  refine dr_put (d := 2) (v := .d (.fl (.bool ((lEq p.chain (fits p.case p.images)))))) rfl (og rfl (op_assign rfl rfl rfl)) ?_
  refine dr_done rfl (by kernel_rfl) (by kernel_rfl) ?_
  refine a_ret ?_
  show ∃ ds, ResL _ _ _ ds ∧ RV.of ds = _
  refine ⟨[.fl (.bool ((lEq p.chain (fits p.case p.images))))], (.cons (.tmp rfl (.d _)) .nil), ?_⟩
  rfl
end Go.Proofs.Ytaecdkhpidligaa.Wk
