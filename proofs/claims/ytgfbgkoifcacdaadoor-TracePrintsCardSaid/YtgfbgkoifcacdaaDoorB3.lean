/- Facts of a passage. Conditions: lists of at most 1000 elements, strings that are not too long. -/
import Derived.Test.YtgfbgkoifcacdaaDoorB2
set_option linter.unusedSimpArgs false
set_option linter.unusedVariables false
namespace Go.Proofs.YtgfbgkoifcacdaaDoor.Wk
open Go Go.RowKit Go.Proofs.YtgfbgkoifcacdaaDoor.Av
def fc (a b : ByteArray) (n : Int) : Fc := ⟨a, b, n⟩
def gT (r : Rs) (id : ByteArray) (t : Tp) : List Fc := if amg t id = true then (if hasK r.chg ((⟨#[116, 58]⟩ : ByteArray) ++ t.id) = true then [Fc.mk ⟨#[116, 114, 105, 112]⟩ t.id 0, Fc.mk ⟨#[99, 104, 97, 114, 103, 101]⟩ ((⟨#[116, 58]⟩ : ByteArray) ++ t.id) 0] else [Fc.mk ⟨#[116, 114, 105, 112]⟩ t.id 0]) else []
def gX (id : ByteArray) (e : Ec) : List Fc := if sEq e.id id = true then [Fc.mk ⟨#[101, 120, 99, 108, 117, 115, 105, 111, 110]⟩ id e.why] else []
def fct (r : Rs) (id : ByteArray) : List Fc := ([Fc.mk ⟨#[112, 97, 115, 115, 97, 103, 101]⟩ id 0] ++ cat (gT r id) r.trips r.trips.length) ++ cat (gX id) r.exc r.exc.length
theorem gT_len (r : Rs) (id : ByteArray) (t : Tp) : (gT r id t).length ≤ 2 := by
  unfold gT
  split
  · split <;> simp
  · simp
theorem gX_len (id : ByteArray) (e : Ec) : (gX id e).length ≤ 1 := by
  unfold gX
  split <;> simp
theorem fct_len (r : Rs) (id : ByteArray) (h1 : r.trips.length ≤ 1000) (h2 : r.exc.length ≤ 1000) : (fct r id).length ≤ 4000 := by
  unfold fct
  have g1 := cat_len (g := gT r id) (l := r.trips) (c := 2) (fun x _ => gT_len r id x) _ (Nat.le_refl _)
  have g2 := cat_len (g := gX id) (l := r.exc) (c := 1) (fun x _ => gX_len id x) _ (Nat.le_refl _)
  simp only [List.length_append, List.length_cons, List.length_nil]
  omega
theorem hasK_of {l : List Cg} {k : ByteArray} {b : Bool} (h : decide (0 ≤ cix l k) = b) : hasK l k = b := (idx_any _ _).symm.trans h

set_option maxHeartbeats 4000000 in
set_option maxRecDepth 100000 in
theorem add56 (l : List Fc) (kind key : ByteArray) (why : Int) (hl : l.length ≤ 10000000) : CtrX Tryd.prog 56 [.d (.fl (.string kind)), .d (.fl (.string key)), .d (.fl (.int .i64 why)), .p 0] [.bt 69 [.ow 81 3 (List.map eFc l)]] [.bt 69 [.ow 81 3 (List.map eFc (l ++ [(Fc.mk kind key why)]))]] (.tu []) := by
  refine ctrX (n := 14) (rs := #[]) Tryd.func56 rfl rfl rfl rfl rfl rfl rfl rfl (fun w0 U0 vv H V Q => ?_)
  show A _ _ _ _ _ _ (SS [(0, .d (.fl (.string kind))), (1, .d (.fl (.string key))), (2, .d (.fl (.int .i64 why))), (3, .pv 0 (vv 3))] [(0, .bt 69 [.ow 81 3 (List.map eFc l)]), (1, .pin H V Q)])
  refine a_region ?_
  refine rg_nam (d := 7) (v := .ow 101) (m := 101) (nw := [(101, .tr 81 3 (tD eFc l)), (0, .bt 69 [.un])]) rfl (og rfl (of_eff (op_takeBt 101 rfl Tryd.underlying69 rfl rfl rfl rfl rfl rfl) rfl)) rfl ?_
  refine rg_put (d := 8) (v := .d (.fl (.string kind))) rfl (og rfl (op_move rfl rfl rfl)) ?_
  refine rg_put (d := 9) (v := .d (.fl (.string key))) rfl (og rfl (op_move rfl rfl rfl)) ?_
  refine rg_put (d := 10) (v := .d (.fl (.int .i64 why))) rfl (og rfl (op_move rfl rfl rfl)) ?_
  refine rg_put (d := 11) (v := .d (.ag (eFc (Fc.mk kind key why)))) rfl (og rfl (of_eff (op_build rfl Tryd.underlying81 ti81 rfl (by kernel_rfl) (by kernel_rfl) (pl := #[(0, 1), (1, 1), (2, 1)]) (by kernel_rfl) (.cons rfl rfl (.d _) rfl rfl rfl (.cons rfl rfl (.d _) rfl rfl rfl (.cons rfl rfl (.d _) rfl rfl rfl .nil))) rfl) rfl)) ?_
  refine rg_put (d := 12) (v := .d (.sl 3 (List.map eFc [(Fc.mk kind key why)]))) rfl (og rfl (of_eff (op_slices rfl Tryd.underlying69 ti81 rfl rfl rfl (by kernel_rfl) (xs := [.ag (eFc (Fc.mk kind key why))]) rfl rfl (.cons rfl rfl (.d _) rfl rfl rfl .nil) rfl) rfl)) ?_
  refine rg_nam (d := 13) (v := .ow 102) (m := 102) (nw := [(102, .tr 81 3 (tD eFc ((l ++ [(Fc.mk kind key why)])))), (101, .no)]) rfl (og rfl (of_eff (s_append_td 102 rfl Tryd.underlying69 ti81 rfl rfl rfl rfl rfl (.d _) (by simp only [List.length_append, List.length_cons, List.length_nil]; omega) rfl) rfl)) rfl ?_
  refine rg_sto (nw := [(0, .bt 69 [.ow 81 3 (List.map eFc ((l ++ [(Fc.mk kind key why)])))]), (102, .no)]) rfl (og rfl (of_eff (op_store_bt rfl rfl ti69 rfl rfl rfl (.tr rfl) rfl rfl rfl) rfl)) ?_
  refine rg_done rfl ?_
  show (∃ ds, ResL _ _ _ ds ∧ RV.of ds = _) ∧ _ ∧ _
  refine ⟨⟨[], .nil, ?_⟩, (And.intro rfl trivial), (And.intro rfl rfl)⟩
  rfl
set_option maxHeartbeats 4000000 in
set_option maxRecDepth 100000 in
theorem add33 (l : List Fc) (kind key : ByteArray) (why : Int) (hl : l.length ≤ 10000000) : CtrX Tryd.prog 33 [.d (.fl (.string kind)), .d (.fl (.string key)), .d (.fl (.int .i64 why)), .p 0] [.bt 69 [.ow 81 3 (List.map eFc l)]] [.bt 69 [.ow 81 3 (List.map eFc (l ++ [(Fc.mk kind key why)]))]] (.tu []) := by
  refine ctrX (n := 14) (rs := #[]) Tryd.func33 rfl rfl rfl rfl rfl rfl rfl rfl (fun w0 U0 vv H V Q => ?_)
  show A _ _ _ _ _ _ (SS [(0, .d (.fl (.string kind))), (1, .d (.fl (.string key))), (2, .d (.fl (.int .i64 why))), (3, .pv 0 (vv 3))] [(0, .bt 69 [.ow 81 3 (List.map eFc l)]), (1, .pin H V Q)])
  refine a_region ?_
  refine rg_nam (d := 7) (v := .ow 101) (m := 101) (nw := [(101, .tr 81 3 (tD eFc l)), (0, .bt 69 [.un])]) rfl (og rfl (of_eff (op_takeBt 101 rfl Tryd.underlying69 rfl rfl rfl rfl rfl rfl) rfl)) rfl ?_
  refine rg_put (d := 8) (v := .d (.fl (.string kind))) rfl (og rfl (op_move rfl rfl rfl)) ?_
  refine rg_put (d := 9) (v := .d (.fl (.string key))) rfl (og rfl (op_move rfl rfl rfl)) ?_
  refine rg_put (d := 10) (v := .d (.fl (.int .i64 why))) rfl (og rfl (op_move rfl rfl rfl)) ?_
  refine rg_put (d := 11) (v := .d (.ag (eFc (Fc.mk kind key why)))) rfl (og rfl (of_eff (op_build rfl Tryd.underlying81 ti81 rfl (by kernel_rfl) (by kernel_rfl) (pl := #[(0, 1), (1, 1), (2, 1)]) (by kernel_rfl) (.cons rfl rfl (.d _) rfl rfl rfl (.cons rfl rfl (.d _) rfl rfl rfl (.cons rfl rfl (.d _) rfl rfl rfl .nil))) rfl) rfl)) ?_
  refine rg_put (d := 12) (v := .d (.sl 3 (List.map eFc [(Fc.mk kind key why)]))) rfl (og rfl (of_eff (op_slices rfl Tryd.underlying69 ti81 rfl rfl rfl (by kernel_rfl) (xs := [.ag (eFc (Fc.mk kind key why))]) rfl rfl (.cons rfl rfl (.d _) rfl rfl rfl .nil) rfl) rfl)) ?_
  refine rg_nam (d := 13) (v := .ow 102) (m := 102) (nw := [(102, .tr 81 3 (tD eFc ((l ++ [(Fc.mk kind key why)])))), (101, .no)]) rfl (og rfl (of_eff (s_append_td 102 rfl Tryd.underlying69 ti81 rfl rfl rfl rfl rfl (.d _) (by simp only [List.length_append, List.length_cons, List.length_nil]; omega) rfl) rfl)) rfl ?_
  refine rg_sto (nw := [(0, .bt 69 [.ow 81 3 (List.map eFc ((l ++ [(Fc.mk kind key why)])))]), (102, .no)]) rfl (og rfl (of_eff (op_store_bt rfl rfl ti69 rfl rfl rfl (.tr rfl) rfl rfl rfl) rfl)) ?_
  refine rg_done rfl ?_
  show (∃ ds, ResL _ _ _ ds ∧ RV.of ds = _) ∧ _ ∧ _
  refine ⟨⟨[], .nil, ?_⟩, (And.intro rfl trivial), (And.intro rfl rfl)⟩
  rfl
set_option maxHeartbeats 4000000 in
set_option maxRecDepth 100000 in
theorem add62 (l : List Fc) (kind key : ByteArray) (hl : l.length ≤ 10000000) : CtrX Tryd.prog 62 [.d (.fl (.string kind)), .d (.fl (.string key)), .p 0] [.bt 69 [.ow 81 3 (List.map eFc l)]] [.bt 69 [.ow 81 3 (List.map eFc (l ++ [(Fc.mk kind key 0)]))]] (.tu []) := by
  refine ctrX (n := 11) (rs := #[]) Tryd.func62 rfl rfl rfl rfl rfl rfl rfl rfl (fun w0 U0 vv H V Q => ?_)
  show A _ _ _ _ _ _ (SS [(0, .d (.fl (.string kind))), (1, .d (.fl (.string key))), (2, .pv 0 (vv 2))] [(0, .bt 69 [.ow 81 3 (List.map eFc l)]), (1, .pin H V Q)])
  refine a_region ?_
  refine rg_nam (d := 5) (v := .ow 101) (m := 101) (nw := [(101, .tr 81 3 (tD eFc l)), (0, .bt 69 [.un])]) rfl (og rfl (of_eff (op_takeBt 101 rfl Tryd.underlying69 rfl rfl rfl rfl rfl rfl) rfl)) rfl ?_
  refine rg_put (d := 6) (v := .d (.fl (.string kind))) rfl (og rfl (op_move rfl rfl rfl)) ?_
  refine rg_put (d := 7) (v := .d (.fl (.string key))) rfl (og rfl (op_move rfl rfl rfl)) ?_
  refine rg_put (d := 8) (v := .d (.ag (eFc (Fc.mk kind key 0)))) rfl (og rfl (of_eff (op_build rfl Tryd.underlying81 ti81 rfl (by kernel_rfl) (by kernel_rfl) (pl := #[(0, 1), (1, 1), (2, 1)]) (by kernel_rfl) (.cons rfl rfl (.d _) rfl rfl rfl (.cons rfl rfl (.d _) rfl rfl rfl .nil)) rfl) rfl)) ?_
  refine rg_put (d := 9) (v := .d (.sl 3 (List.map eFc [(Fc.mk kind key 0)]))) rfl (og rfl (of_eff (op_slices rfl Tryd.underlying69 ti81 rfl rfl rfl (by kernel_rfl) (xs := [.ag (eFc (Fc.mk kind key 0))]) rfl rfl (.cons rfl rfl (.d _) rfl rfl rfl .nil) rfl) rfl)) ?_
  refine rg_nam (d := 10) (v := .ow 102) (m := 102) (nw := [(102, .tr 81 3 (tD eFc ((l ++ [(Fc.mk kind key 0)])))), (101, .no)]) rfl (og rfl (of_eff (s_append_td 102 rfl Tryd.underlying69 ti81 rfl rfl rfl rfl rfl (.d _) (by simp only [List.length_append, List.length_cons, List.length_nil]; omega) rfl) rfl)) rfl ?_
  refine rg_sto (nw := [(0, .bt 69 [.ow 81 3 (List.map eFc ((l ++ [(Fc.mk kind key 0)])))]), (102, .no)]) rfl (og rfl (of_eff (op_store_bt rfl rfl ti69 rfl rfl rfl (.tr rfl) rfl rfl rfl) rfl)) ?_
  refine rg_done rfl ?_
  show (∃ ds, ResL _ _ _ ds ∧ RV.of ds = _) ∧ _ ∧ _
  refine ⟨⟨[], .nil, ?_⟩, (And.intro rfl trivial), (And.intro rfl rfl)⟩
  rfl
theorem has57p (t : Tp) (id : ByteArray) (hl : t.stops.length ≤ 1000) : Ctr Tryd.prog 57 [.sl 1 (List.map rS (pas t)), .fl (.string id)] (.d (.fl (.bool (amg t id)))) := by
  have h := has57 (pas t) id (by have := pas_len t; omega)
  rw [amg_has] at h
  exact h

set_option maxHeartbeats 4000000 in
set_option maxRecDepth 100000 in
theorem fct23 (r : Rs) (id : ByteArray) (h1 : r.trips.length ≤ 1000) (h2 : r.exc.length ≤ 1000) (h3 : r.chg.length ≤ 1000) (hs : ∀ q, q < r.trips.length → (ix r.trips q).stops.length ≤ 1000 ∧ (ix r.trips q).id.size ≤ 9000000000000000000) : Ctr Tryd.prog 23 [.ag (eRs r), .fl (.string id)] (.d (.sl 3 (List.map eFc (fct r id)))) := by
  refine ctr (n := 61) (rs := #[.tmp 4]) (L := [(0, .d (.ag (eRs r))), (1, .d (.fl (.string id)))]) Tryd.func23 rfl rfl rfl rfl rfl (fun w0 U0 => ?_)
  refine a_rseq ?_
  refine rg_nam (d := 2) (v := .pt 101 0) (m := 101) (nw := [(101, .bx 56 (eRs r))]) rfl (og rfl (of_eff (op_box 101 rfl rfl rfl rfl) rfl)) rfl ?_
  refine rg_put (d := 4) (v := .d (.fl (.slice none 0 0))) rfl (og rfl (op_assign rfl rfl rfl)) ?_
  refine rg_done rfl ?_
  refine a_rseq ?_
  refine rg_nam (d := 5) (v := .pt 102 0) (m := 102) (nw := [(102, .bx 69 [.fl (.slice none 0 0)])]) rfl (og rfl (of_eff (s_alloc 102 rfl ti69 (by kernel_rfl) rfl) rfl)) rfl ?_
  refine rg_done rfl ?_
  refine a_rseq ?_
  refine rg_imp (imp_bt 102 rfl) ?_
  refine rg_imp (imp_btnil 102 0 81 3 rfl rfl) ?_
  refine rg_put (d := 11) (v := .cl 56 [.p 102]) rfl (og rfl (op_mkcl rfl (.p rfl .nil) rfl)) ?_
  refine rg_put (d := 6) (v := .cl 56 [.p 102]) rfl (og rfl (op_assign rfl rfl rfl)) ?_
  refine rg_done rfl ?_
  refine a_rseq ?_
  refine rg_put (d := 12) (v := .cl 56 [.p 102]) rfl (og rfl (op_move rfl rfl rfl)) ?_
  refine rg_put (d := 13) (v := .d (.fl (.string id))) rfl (og rfl (op_move rfl rfl rfl)) ?_
  refine rg_upd (d := 14) (v := .tu []) (nw := [(102, .bt 69 [.ow 81 3 (List.map eFc (([] ++ [(Fc.mk (⟨#[112, 97, 115, 115, 97, 103, 101]⟩) id 0)])))])]) rfl (og rfl (of_eff (op_callXV [102] (obs := [.bt 69 [.ow 81 3 (List.map eFc [])]]) (obs' := [.bt 69 [.ow 81 3 (List.map eFc (([] ++ [(Fc.mk (⟨#[112, 97, 115, 115, 97, 103, 101]⟩) id 0)])))]]) (r := .tu []) rfl ⟨_, Tryd.func56, nm56, rfl⟩ rfl (.d rfl (.d _) (.d rfl (.d _) (.d rfl (.d _) .nil))) (.p 0 rfl .nil) rfl (And.intro rfl trivial) rfl rfl rfl (add56 [] (⟨#[112, 97, 115, 115, 97, 103, 101]⟩) id 0 (by simp only [List.length_append, List.length_cons, List.length_nil]; omega)) rfl) rfl)) ?_
  refine rg_done rfl ?_
  refine a_seq ?_
  refine a_rseq ?_
  refine rg_put (d := 15) (v := .pt 101 2) rfl (og rfl (of_eff (s_field_pt rfl Tryd.underlying56 rfl ti51 rfl rfl rfl) rfl)) ?_
  refine rg_put (d := 16) (v := .d (.sl 5 (List.map eTp r.trips))) rfl (og rfl (op_load_pt rfl Tryd.underlying51 rfl rfl rfl rfl rfl)) ?_
  refine rg_put (d := 17) (v := .d (.fl (.int .i64 (r.trips.length : Int)))) rfl (og rfl (s_len rfl Tryd.underlying51 rfl rfl)) ?_
  refine rg_put (d := 18) (v := .d (.fl (.int .i64 0))) rfl (og rfl (op_move rfl rfl rfl)) ?_
  refine rg_done rfl ?_
  refine a_block ?_
  refine a_loop (ι := Nat) (fun k => SS [(0, .d (.ag (eRs r))), (1, .d (.fl (.string id))), (2, .pt 101 0), (4, .d (.fl (.slice none 0 0))), (5, .pt 102 0), (6, .cl 56 [.p 102]), (16, .d (.sl 5 (List.map eTp r.trips))), (17, .d (.fl (.int .i64 (r.trips.length : Int)))), (18, .d (.fl (.int .i64 (k : Int))))] [(101, .bx 56 (eRs r)), (102, .bt 69 [.ow 81 3 (List.map eFc (([(Fc.mk ⟨#[112, 97, 115, 115, 97, 103, 101]⟩ id 0)] ++ (cat (gT r id) r.trips k))))])]) (fun k => k ≤ r.trips.length) (fun k => r.trips.length - k) 0 (by omega) (imp_forget rfl ⟨rfl, rfl, rfl, rfl, rfl, rfl, rfl, rfl, (by first | rfl | exact ci (by omega) | exact ci (by simp) | exact cd (by simp) | simp), trivial⟩ ⟨rfl, rfl, trivial⟩) (fun k hok => ?_)
  have hk := hok
  have hc1 := cat_len (g := gT r id) (l := r.trips) (c := 2) (fun x _ => gT_len r id x) k hk
  refine a_rseq ?_
  refine rg_put (d := 19) (v := .d (.fl (.bool ((decide ((k : Int) < (r.trips.length : Int))))))) rfl (og rfl (op_bin rfl rfl rfl (b_lss _ _ _ _) rfl)) ?_
  refine rg_done rfl ?_
  refine a_seq ?_
  refine a_cond rfl (fun h1 => ?_) (fun h1 => ?_)
  · skip
    have h2 := t_dec h1
    refine a_skip ?_
    show A _ _ _ _ _ _ _
    refine a_seq ?_
    refine a_block ?_
    refine a_rseq ?_
    refine rg_put (d := 20) (v := .el ((eTp (ix r.trips k)))) rfl (og rfl (s_index rfl Tryd.underlying51 ti90 rfl rfl (by omega) (row_at (by omega)) rfl)) ?_
    refine rg_put (d := 21) (v := .d (.ag (eTp (ix r.trips k)))) rfl (og rfl (of_eff (s_load_els rfl Tryd.underlying90 rfl ti90 rfl rfl rfl) rfl)) ?_
    refine rg_nam (d := 8) (v := .pt 103 0) (m := 103) (nw := [(103, .bx 90 ([.fl (.string (⟨#[]⟩)), .fl (.string (⟨#[]⟩)), .fl (.string (⟨#[]⟩)), .fl (.int .i64 0), .fl (.slice none 0 0)]))]) rfl (og rfl (of_eff (s_alloc 103 rfl ti90 (by kernel_rfl) rfl) rfl)) rfl ?_
    refine rg_sto (nw := [(103, .bx 90 ((eTp (ix r.trips k))))]) rfl (og rfl (of_eff (s_store rfl rfl ti90 rfl rfl rfl rfl rfl rfl) rfl)) ?_
    refine rg_done rfl ?_
    refine a_seq ?_
    refine a_rseq ?_
    refine rg_put (d := 22) (v := .d (.ag (eTp (ix r.trips k)))) rfl (og rfl (of_eff (s_load_pts rfl Tryd.underlying90 rfl ti90 rfl rfl rfl rfl) rfl)) ?_
    refine rg_put (d := 23) (v := .d (.sl 1 (List.map rS ((pas (ix r.trips k)))))) rfl (og rfl (op_call rfl Tryd.func58 nm58 rfl (.cons rfl (.d _) .nil) (pas58 (ix r.trips k) (hs k (by omega)).1) rfl)) ?_
    refine rg_put (d := 24) (v := .d (.fl (.string id))) rfl (og rfl (op_move rfl rfl rfl)) ?_
    refine rg_put (d := 25) (v := .d (.fl (.bool ((amg (ix r.trips k) id))))) rfl (og rfl (op_call rfl Tryd.func57 nm57 rfl (.cons rfl (.d _) (.cons rfl (.d _) .nil)) (has57p (ix r.trips k) id (hs k (by omega)).1) rfl)) ?_
    refine rg_put (d := 26) (v := .d (.fl (.bool ((!((amg (ix r.trips k) id))))))) rfl (og rfl (op_un rfl rfl (u_not _) rfl)) ?_
    refine rg_done rfl ?_
    refine a_cond rfl (fun h3 => ?_) (fun h3 => ?_)
    · skip
      have h4 := t_not h3
      refine a_exit ?_
      show A _ _ _ _ _ _ _
      refine a_region ?_
      refine rg_put (d := 42) (v := .d (.fl (.int .i64 (((k : Int) + 1))))) rfl (og rfl (op_bin rfl rfl rfl (fun x y w => b_add64 _ _ _ x y w (by omega)) rfl)) ?_
      refine rg_put (d := 18) (v := .d (.fl (.int .i64 (((k : Int) + 1))))) rfl (og rfl (op_move rfl rfl rfl)) ?_
      refine rg_done rfl ?_
      have hg : gT r id (ix r.trips k) = [] := by unfold gT; rw [if_neg (by rw [h4]; decide)]
      show ∃ i, _ ∧ _ ∧ Imp _ _ _ _ _
      refine ⟨k + 1, (by omega), by omega, imp_forget rfl ⟨rfl, rfl, rfl, rfl, rfl, rfl, rfl, rfl, (by first | rfl | exact ci (by omega) | exact ci (by simp) | exact cd (by simp) | simp), trivial⟩ ⟨rfl, (congrArg (fun z => Ob.bt 69 [OC.ow 81 3 (List.map eFc z)]) (cat_eq hg (by first | rfl | simp only [List.append_nil] | simp only [List.append_assoc, List.cons_append, List.nil_append]))), trivial⟩⟩
    · skip
      have h5 := f_not h3
      refine a_skip ?_
      show A _ _ _ _ _ _ _
      refine a_rseq ?_
      refine rg_put (d := 27) (v := .cl 56 [.p 102]) rfl (og rfl (op_move rfl rfl rfl)) ?_
      refine rg_put (d := 28) (v := .pt 103 0) rfl (og rfl (of_eff (s_field_pt rfl Tryd.underlying90 rfl ti9 rfl rfl rfl) rfl)) ?_
      refine rg_put (d := 29) (v := .d (.fl (.string ((ix r.trips k).id)))) rfl (og rfl (op_load_pt rfl Tryd.underlying9 rfl rfl rfl rfl rfl)) ?_
      refine rg_upd (d := 30) (v := .tu []) (nw := [(102, .bt 69 [.ow 81 3 (List.map eFc ((([(Fc.mk ⟨#[112, 97, 115, 115, 97, 103, 101]⟩ id 0)] ++ (cat (gT r id) r.trips k)) ++ [(Fc.mk (⟨#[116, 114, 105, 112]⟩) ((ix r.trips k).id) 0)])))])]) rfl (og rfl (of_eff (op_callXV [102] (obs := [.bt 69 [.ow 81 3 (List.map eFc (([(Fc.mk ⟨#[112, 97, 115, 115, 97, 103, 101]⟩ id 0)] ++ (cat (gT r id) r.trips k))))]]) (obs' := [.bt 69 [.ow 81 3 (List.map eFc ((([(Fc.mk ⟨#[112, 97, 115, 115, 97, 103, 101]⟩ id 0)] ++ (cat (gT r id) r.trips k)) ++ [(Fc.mk (⟨#[116, 114, 105, 112]⟩) ((ix r.trips k).id) 0)])))]]) (r := .tu []) rfl ⟨_, Tryd.func56, nm56, rfl⟩ rfl (.d rfl (.d _) (.d rfl (.d _) (.d rfl (.d _) .nil))) (.p 0 rfl .nil) rfl (And.intro rfl trivial) rfl rfl rfl (add56 (([(Fc.mk ⟨#[112, 97, 115, 115, 97, 103, 101]⟩ id 0)] ++ (cat (gT r id) r.trips k))) (⟨#[116, 114, 105, 112]⟩) ((ix r.trips k).id) 0 (by simp only [List.length_append, List.length_cons, List.length_nil]; omega)) rfl) rfl)) ?_
      refine rg_done rfl ?_
      refine a_rseq ?_
      refine rg_put (d := 31) (v := .pt 101 4) rfl (og rfl (of_eff (s_field_pt rfl Tryd.underlying56 rfl ti53 rfl rfl rfl) rfl)) ?_
      refine rg_put (d := 32) (v := .d (.sl 7 (List.map eCg r.chg))) rfl (og rfl (op_load_pt rfl Tryd.underlying53 rfl rfl rfl rfl rfl)) ?_
      refine rg_put (d := 33) (v := .pt 103 0) rfl (og rfl (of_eff (s_field_pt rfl Tryd.underlying90 rfl ti9 rfl rfl rfl) rfl)) ?_
      refine rg_put (d := 34) (v := .d (.fl (.string ((ix r.trips k).id)))) rfl (og rfl (op_load_pt rfl Tryd.underlying9 rfl rfl rfl rfl rfl)) ?_
      refine rg_put (d := 35) (v := .d (.fl (.string (((⟨#[116, 58]⟩ : ByteArray) ++ ((ix r.trips k).id)))))) rfl (og rfl (op_bin rfl rfl rfl (fun ox oy ow => b_sadd _ _ _ ox oy ow (by have := (hs k (by omega)).2; show 2 + (ix r.trips k).id.size ≤ _; omega)) rfl)) ?_
      refine rg_put (d := 36) (v := .d (.fl (.bool ((hasK r.chg (((⟨#[116, 58]⟩ : ByteArray) ++ ((ix r.trips k).id)))))))) rfl (og rfl (op_call rfl Tryd.func40 nm40 rfl (.cons rfl (.d _) (.cons rfl (.d _) .nil)) (hasK40 r.chg (((⟨#[116, 58]⟩ : ByteArray) ++ ((ix r.trips k).id))) (by omega)) rfl)) ?_
      refine rg_done rfl ?_
      refine a_cond rfl (fun h6 => ?_) (fun h6 => ?_)
      · skip
        refine a_region ?_
        refine rg_put (d := 37) (v := .cl 56 [.p 102]) rfl (og rfl (op_move rfl rfl rfl)) ?_
        refine rg_put (d := 38) (v := .pt 103 0) rfl (og rfl (of_eff (s_field_pt rfl Tryd.underlying90 rfl ti9 rfl rfl rfl) rfl)) ?_
        refine rg_put (d := 39) (v := .d (.fl (.string ((ix r.trips k).id)))) rfl (og rfl (op_load_pt rfl Tryd.underlying9 rfl rfl rfl rfl rfl)) ?_
        refine rg_put (d := 40) (v := .d (.fl (.string (((⟨#[116, 58]⟩ : ByteArray) ++ ((ix r.trips k).id)))))) rfl (og rfl (op_bin rfl rfl rfl (fun ox oy ow => b_sadd _ _ _ ox oy ow (by have := (hs k (by omega)).2; show 2 + (ix r.trips k).id.size ≤ _; omega)) rfl)) ?_
        refine rg_upd (d := 41) (v := .tu []) (nw := [(102, .bt 69 [.ow 81 3 (List.map eFc (((([(Fc.mk ⟨#[112, 97, 115, 115, 97, 103, 101]⟩ id 0)] ++ (cat (gT r id) r.trips k)) ++ [(Fc.mk (⟨#[116, 114, 105, 112]⟩) ((ix r.trips k).id) 0)]) ++ [(Fc.mk (⟨#[99, 104, 97, 114, 103, 101]⟩) (((⟨#[116, 58]⟩ : ByteArray) ++ ((ix r.trips k).id))) 0)])))])]) rfl (og rfl (of_eff (op_callXV [102] (obs := [.bt 69 [.ow 81 3 (List.map eFc ((([(Fc.mk ⟨#[112, 97, 115, 115, 97, 103, 101]⟩ id 0)] ++ (cat (gT r id) r.trips k)) ++ [(Fc.mk (⟨#[116, 114, 105, 112]⟩) ((ix r.trips k).id) 0)])))]]) (obs' := [.bt 69 [.ow 81 3 (List.map eFc (((([(Fc.mk ⟨#[112, 97, 115, 115, 97, 103, 101]⟩ id 0)] ++ (cat (gT r id) r.trips k)) ++ [(Fc.mk (⟨#[116, 114, 105, 112]⟩) ((ix r.trips k).id) 0)]) ++ [(Fc.mk (⟨#[99, 104, 97, 114, 103, 101]⟩) (((⟨#[116, 58]⟩ : ByteArray) ++ ((ix r.trips k).id))) 0)])))]]) (r := .tu []) rfl ⟨_, Tryd.func56, nm56, rfl⟩ rfl (.d rfl (.d _) (.d rfl (.d _) (.d rfl (.d _) .nil))) (.p 0 rfl .nil) rfl (And.intro rfl trivial) rfl rfl rfl (add56 ((([(Fc.mk ⟨#[112, 97, 115, 115, 97, 103, 101]⟩ id 0)] ++ (cat (gT r id) r.trips k)) ++ [(Fc.mk (⟨#[116, 114, 105, 112]⟩) ((ix r.trips k).id) 0)])) (⟨#[99, 104, 97, 114, 103, 101]⟩) (((⟨#[116, 58]⟩ : ByteArray) ++ ((ix r.trips k).id))) 0 (by simp only [List.length_append, List.length_cons, List.length_nil]; omega)) rfl) rfl)) ?_
        refine rg_done rfl ?_
        show A _ _ _ _ _ _ _
        refine a_region ?_
        refine rg_put (d := 42) (v := .d (.fl (.int .i64 (((k : Int) + 1))))) rfl (og rfl (op_bin rfl rfl rfl (fun x y w => b_add64 _ _ _ x y w (by omega)) rfl)) ?_
        refine rg_put (d := 18) (v := .d (.fl (.int .i64 (((k : Int) + 1))))) rfl (og rfl (op_move rfl rfl rfl)) ?_
        refine rg_done rfl ?_
        have hg : gT r id (ix r.trips k) = [Fc.mk ⟨#[116, 114, 105, 112]⟩ (ix r.trips k).id 0, Fc.mk ⟨#[99, 104, 97, 114, 103, 101]⟩ ((⟨#[116, 58]⟩ : ByteArray) ++ (ix r.trips k).id) 0] := by unfold gT; rw [if_pos h5, if_pos h6]
        show ∃ i, _ ∧ _ ∧ Imp _ _ _ _ _
        refine ⟨k + 1, (by omega), by omega, imp_forget rfl ⟨rfl, rfl, rfl, rfl, rfl, rfl, rfl, rfl, (by first | rfl | exact ci (by omega) | exact ci (by simp) | exact cd (by simp) | simp), trivial⟩ ⟨rfl, (congrArg (fun z => Ob.bt 69 [OC.ow 81 3 (List.map eFc z)]) (cat_eq hg (by first | rfl | simp only [List.append_nil] | simp only [List.append_assoc, List.cons_append, List.nil_append]))), trivial⟩⟩
      · skip
        refine a_skip ?_
        show A _ _ _ _ _ _ _
        refine a_region ?_
        refine rg_put (d := 42) (v := .d (.fl (.int .i64 (((k : Int) + 1))))) rfl (og rfl (op_bin rfl rfl rfl (fun x y w => b_add64 _ _ _ x y w (by omega)) rfl)) ?_
        refine rg_put (d := 18) (v := .d (.fl (.int .i64 (((k : Int) + 1))))) rfl (og rfl (op_move rfl rfl rfl)) ?_
        refine rg_done rfl ?_
        have hg : gT r id (ix r.trips k) = [Fc.mk ⟨#[116, 114, 105, 112]⟩ (ix r.trips k).id 0] := by unfold gT; rw [if_pos h5, if_neg (by rw [h6]; decide)]
        show ∃ i, _ ∧ _ ∧ Imp _ _ _ _ _
        refine ⟨k + 1, (by omega), by omega, imp_forget rfl ⟨rfl, rfl, rfl, rfl, rfl, rfl, rfl, rfl, (by first | rfl | exact ci (by omega) | exact ci (by simp) | exact cd (by simp) | simp), trivial⟩ ⟨rfl, (congrArg (fun z => Ob.bt 69 [OC.ow 81 3 (List.map eFc z)]) (cat_eq hg (by first | rfl | simp only [List.append_nil] | simp only [List.append_assoc, List.cons_append, List.nil_append]))), trivial⟩⟩
  · skip
    have h7 := f_dec h1
    refine a_exit ?_
    show A _ _ _ _ _ _ _
    refine a_seq ?_
    refine a_rseq ?_
    have hkl : k = r.trips.length := by omega
    rw [show (cat (gT r id) r.trips k) = (cat (gT r id) r.trips r.trips.length) from by rw [hkl]]
    have hc1 := cat_len (g := gT r id) (l := r.trips) (c := 2) (fun x _ => gT_len r id x) r.trips.length (Nat.le_refl _)
    refine rg_put (d := 43) (v := .pt 101 5) rfl (og rfl (of_eff (s_field_pt rfl Tryd.underlying56 rfl ti54 rfl rfl rfl) rfl)) ?_
    refine rg_put (d := 44) (v := .d (.sl 2 (List.map eEc r.exc))) rfl (og rfl (op_load_pt rfl Tryd.underlying54 rfl rfl rfl rfl rfl)) ?_
    refine rg_put (d := 45) (v := .d (.fl (.int .i64 (r.exc.length : Int)))) rfl (og rfl (s_len rfl Tryd.underlying54 rfl rfl)) ?_
    refine rg_put (d := 46) (v := .d (.fl (.int .i64 0))) rfl (og rfl (op_move rfl rfl rfl)) ?_
    refine rg_done rfl ?_
    refine a_block ?_
    refine a_loop (ι := Nat) (fun j => SS [(0, .d (.ag (eRs r))), (1, .d (.fl (.string id))), (2, .pt 101 0), (4, .d (.fl (.slice none 0 0))), (5, .pt 102 0), (6, .cl 56 [.p 102]), (16, .d (.sl 5 (List.map eTp r.trips))), (17, .d (.fl (.int .i64 (r.trips.length : Int)))), (18, .d (.fl (.int .i64 (k : Int)))), (19, .d (.fl (.bool ((decide ((k : Int) < (r.trips.length : Int))))))), (44, .d (.sl 2 (List.map eEc r.exc))), (45, .d (.fl (.int .i64 (r.exc.length : Int)))), (46, .d (.fl (.int .i64 (j : Int))))] [(101, .bx 56 (eRs r)), (102, .bt 69 [.ow 81 3 (List.map eFc ((([(Fc.mk ⟨#[112, 97, 115, 115, 97, 103, 101]⟩ id 0)] ++ (cat (gT r id) r.trips r.trips.length)) ++ (cat (gX id) r.exc j))))])]) (fun j => j ≤ r.exc.length) (fun j => r.exc.length - j) 0 (by omega) (imp_forget rfl ⟨rfl, rfl, rfl, rfl, rfl, rfl, rfl, rfl, rfl, rfl, rfl, rfl, (by first | rfl | exact ci (by omega) | exact ci (by simp) | exact cd (by simp) | simp), trivial⟩ ⟨rfl, (congrArg (fun z => Ob.bt 69 [OC.ow 81 3 (List.map eFc z)]) (List.append_nil _).symm), trivial⟩) (fun j hok => ?_)
    have hj := hok
    have hc2 := cat_len (g := gX id) (l := r.exc) (c := 1) (fun x _ => gX_len id x) j hj
    refine a_rseq ?_
    refine rg_put (d := 47) (v := .d (.fl (.bool ((decide ((j : Int) < (r.exc.length : Int))))))) rfl (og rfl (op_bin rfl rfl rfl (b_lss _ _ _ _) rfl)) ?_
    refine rg_done rfl ?_
    refine a_seq ?_
    refine a_cond rfl (fun h8 => ?_) (fun h8 => ?_)
    · skip
      have h9 := t_dec h8
      refine a_skip ?_
      show A _ _ _ _ _ _ _
      refine a_seq ?_
      refine a_block ?_
      refine a_rseq ?_
      refine rg_put (d := 48) (v := .el ((eEc (ix r.exc j)))) rfl (og rfl (s_index rfl Tryd.underlying54 ti154 rfl rfl (by omega) (row_at (by omega)) rfl)) ?_
      refine rg_put (d := 49) (v := .d (.ag (eEc (ix r.exc j)))) rfl (og rfl (of_eff (s_load_els rfl Tryd.underlying154 rfl ti154 rfl rfl rfl) rfl)) ?_
      refine rg_nam (d := 10) (v := .pt 104 0) (m := 104) (nw := [(104, .bx 154 ([.fl (.string (⟨#[]⟩)), .fl (.int .i64 0)]))]) rfl (og rfl (of_eff (s_alloc 104 rfl ti154 (by kernel_rfl) rfl) rfl)) rfl ?_
      refine rg_sto (nw := [(104, .bx 154 ((eEc (ix r.exc j))))]) rfl (og rfl (of_eff (s_store rfl rfl ti154 rfl rfl rfl rfl rfl rfl) rfl)) ?_
      refine rg_done rfl ?_
      refine a_rseq ?_
      refine rg_put (d := 50) (v := .pt 104 0) rfl (og rfl (of_eff (s_field_pt rfl Tryd.underlying154 rfl ti9 rfl rfl rfl) rfl)) ?_
      refine rg_put (d := 51) (v := .d (.fl (.string ((ix r.exc j).id)))) rfl (og rfl (op_load_pt rfl Tryd.underlying9 rfl rfl rfl rfl rfl)) ?_
      refine rg_put (d := 52) (v := .d (.fl (.string id))) rfl (og rfl (op_move rfl rfl rfl)) ?_
      refine rg_put (d := 53) (v := .d (.fl (.bool ((sEq ((ix r.exc j).id) id))))) rfl (og rfl (op_bin rfl rfl rfl (b_seq _ _ _) rfl)) ?_
      refine rg_done rfl ?_
      refine a_cond rfl (fun h10 => ?_) (fun h10 => ?_)
      · skip
        refine a_region ?_
        refine rg_put (d := 54) (v := .cl 56 [.p 102]) rfl (og rfl (op_move rfl rfl rfl)) ?_
        refine rg_put (d := 55) (v := .d (.fl (.string id))) rfl (og rfl (op_move rfl rfl rfl)) ?_
        refine rg_put (d := 56) (v := .pt 104 1) rfl (og rfl (of_eff (s_field_pt rfl Tryd.underlying154 rfl ti3 rfl rfl rfl) rfl)) ?_
        refine rg_put (d := 57) (v := .d (.fl (.int .i64 ((ix r.exc j).why)))) rfl (og rfl (op_load_pt rfl Tryd.underlying3 rfl rfl rfl rfl rfl)) ?_
        refine rg_upd (d := 58) (v := .tu []) (nw := [(102, .bt 69 [.ow 81 3 (List.map eFc (((([(Fc.mk ⟨#[112, 97, 115, 115, 97, 103, 101]⟩ id 0)] ++ (cat (gT r id) r.trips r.trips.length)) ++ (cat (gX id) r.exc j)) ++ [(Fc.mk (⟨#[101, 120, 99, 108, 117, 115, 105, 111, 110]⟩) id (ix r.exc j).why)])))])]) rfl (og rfl (of_eff (op_callXV [102] (obs := [.bt 69 [.ow 81 3 (List.map eFc ((([(Fc.mk ⟨#[112, 97, 115, 115, 97, 103, 101]⟩ id 0)] ++ (cat (gT r id) r.trips r.trips.length)) ++ (cat (gX id) r.exc j))))]]) (obs' := [.bt 69 [.ow 81 3 (List.map eFc (((([(Fc.mk ⟨#[112, 97, 115, 115, 97, 103, 101]⟩ id 0)] ++ (cat (gT r id) r.trips r.trips.length)) ++ (cat (gX id) r.exc j)) ++ [(Fc.mk (⟨#[101, 120, 99, 108, 117, 115, 105, 111, 110]⟩) id (ix r.exc j).why)])))]]) (r := .tu []) rfl ⟨_, Tryd.func56, nm56, rfl⟩ rfl (.d rfl (.d _) (.d rfl (.d _) (.d rfl (.d _) .nil))) (.p 0 rfl .nil) rfl (And.intro rfl trivial) rfl rfl rfl (add56 ((([(Fc.mk ⟨#[112, 97, 115, 115, 97, 103, 101]⟩ id 0)] ++ (cat (gT r id) r.trips r.trips.length)) ++ (cat (gX id) r.exc j))) (⟨#[101, 120, 99, 108, 117, 115, 105, 111, 110]⟩) id ((ix r.exc j).why) (by simp only [List.length_append, List.length_cons, List.length_nil]; omega)) rfl) rfl)) ?_
        refine rg_done rfl ?_
        show A _ _ _ _ _ _ _
        refine a_region ?_
        refine rg_put (d := 59) (v := .d (.fl (.int .i64 (((j : Int) + 1))))) rfl (og rfl (op_bin rfl rfl rfl (fun x y w => b_add64 _ _ _ x y w (by omega)) rfl)) ?_
        refine rg_put (d := 46) (v := .d (.fl (.int .i64 (((j : Int) + 1))))) rfl (og rfl (op_move rfl rfl rfl)) ?_
        refine rg_done rfl ?_
        have hg : gX id (ix r.exc j) = [Fc.mk ⟨#[101, 120, 99, 108, 117, 115, 105, 111, 110]⟩ id (ix r.exc j).why] := by unfold gX; rw [if_pos h10]
        show ∃ i, _ ∧ _ ∧ Imp _ _ _ _ _
        refine ⟨j + 1, (by omega), by omega, imp_forget rfl ⟨rfl, rfl, rfl, rfl, rfl, rfl, rfl, rfl, rfl, rfl, rfl, rfl, (by first | rfl | exact ci (by omega) | exact ci (by simp) | exact cd (by simp) | simp), trivial⟩ ⟨rfl, (congrArg (fun z => Ob.bt 69 [OC.ow 81 3 (List.map eFc z)]) (cat_eq hg (by first | rfl | simp only [List.append_nil] | simp only [List.append_assoc, List.cons_append, List.nil_append]))), trivial⟩⟩
      · skip
        refine a_skip ?_
        show A _ _ _ _ _ _ _
        refine a_region ?_
        refine rg_put (d := 59) (v := .d (.fl (.int .i64 (((j : Int) + 1))))) rfl (og rfl (op_bin rfl rfl rfl (fun x y w => b_add64 _ _ _ x y w (by omega)) rfl)) ?_
        refine rg_put (d := 46) (v := .d (.fl (.int .i64 (((j : Int) + 1))))) rfl (og rfl (op_move rfl rfl rfl)) ?_
        refine rg_done rfl ?_
        have hg : gX id (ix r.exc j) = [] := by unfold gX; rw [if_neg (by rw [h10]; decide)]
        show ∃ i, _ ∧ _ ∧ Imp _ _ _ _ _
        refine ⟨j + 1, (by omega), by omega, imp_forget rfl ⟨rfl, rfl, rfl, rfl, rfl, rfl, rfl, rfl, rfl, rfl, rfl, rfl, (by first | rfl | exact ci (by omega) | exact ci (by simp) | exact cd (by simp) | simp), trivial⟩ ⟨rfl, (congrArg (fun z => Ob.bt 69 [OC.ow 81 3 (List.map eFc z)]) (cat_eq hg (by first | rfl | simp only [List.append_nil] | simp only [List.append_assoc, List.cons_append, List.nil_append]))), trivial⟩⟩
    · skip
      have h11 := f_dec h8
      refine a_exit ?_
      show A _ _ _ _ _ _ _
      refine a_rseq ?_
      refine rg_nam (d := 60) (v := .ow 105) (m := 105) (nw := [(105, .tr 81 3 (tD eFc ((([(Fc.mk ⟨#[112, 97, 115, 115, 97, 103, 101]⟩ id 0)] ++ (cat (gT r id) r.trips r.trips.length)) ++ (cat (gX id) r.exc j))))), (102, .bt 69 [.un])]) rfl (og rfl (of_eff (op_takeBt 105 rfl Tryd.underlying69 rfl rfl rfl rfl rfl rfl) rfl)) rfl ?_
      refine rg_put (d := 4) (v := .ow 105) rfl (og rfl (op_assign rfl rfl rfl)) ?_
      refine rg_done rfl ?_
      refine a_imp (imp_leakT 4 105 rfl rfl) ?_
      refine a_ret ?_
      show ∃ ds, ResL _ _ _ ds ∧ RV.of ds = _
      refine ⟨[.sl 3 (List.map eFc ((([(Fc.mk ⟨#[112, 97, 115, 115, 97, 103, 101]⟩ id 0)] ++ (cat (gT r id) r.trips r.trips.length)) ++ (cat (gX id) r.exc j))))], (.cons (.tmp rfl (.d _)) .nil), ?_⟩
      have hjl : j = r.exc.length := by omega
      subst hjl
      rfl
set_option maxHeartbeats 4000000 in
set_option maxRecDepth 100000 in
theorem fct27 (r : Rs) (id : ByteArray) (h1 : r.trips.length ≤ 1000) (h2 : r.exc.length ≤ 1000) (h3 : r.chg.length ≤ 1000) (hs : ∀ q, q < r.trips.length → (ix r.trips q).stops.length ≤ 1000 ∧ (ix r.trips q).id.size ≤ 9000000000000000000) : Ctr Tryd.prog 27 [.ag (eRs r), .fl (.string id)] (.d (.sl 3 (List.map eFc (fct r id)))) := by
  refine ctr (n := 75) (rs := #[.tmp 4]) (L := [(0, .d (.ag (eRs r))), (1, .d (.fl (.string id)))]) Tryd.func27 rfl rfl rfl rfl rfl (fun w0 U0 => ?_)
  refine a_rseq ?_
  refine rg_nam (d := 2) (v := .pt 101 0) (m := 101) (nw := [(101, .bx 56 (eRs r))]) rfl (og rfl (of_eff (op_box 101 rfl rfl rfl rfl) rfl)) rfl ?_
  refine rg_put (d := 4) (v := .d (.fl (.slice none 0 0))) rfl (og rfl (op_assign rfl rfl rfl)) ?_
  refine rg_done rfl ?_
  refine a_rseq ?_
  refine rg_put (d := 9) (v := .d (.fl (.string id))) rfl (og rfl (op_move rfl rfl rfl)) ?_
  refine rg_put (d := 10) (v := .d (.ag (eFc ((Fc.mk (⟨#[112, 97, 115, 115, 97, 103, 101]⟩) id 0))))) rfl (og rfl (of_eff (op_build rfl Tryd.underlying81 ti81 rfl (by kernel_rfl) (by kernel_rfl) (pl := #[(0, 1), (1, 1), (2, 1)]) (by kernel_rfl) (.cons rfl rfl (.d _) rfl rfl rfl (.cons rfl rfl (.d _) rfl rfl rfl .nil)) rfl) rfl)) ?_
  refine rg_nam (d := 11) (v := .ow 102) (m := 102) (nw := [(102, .tr 81 3 (tD eFc ([(Fc.mk (⟨#[112, 97, 115, 115, 97, 103, 101]⟩) id 0)])))]) rfl (og rfl (of_eff (of_eff (op_sliceB 102 rfl Tryd.underlying69 ti81 rfl rfl rfl (by kernel_rfl) (xs := [.ag (eFc ((Fc.mk (⟨#[112, 97, 115, 115, 97, 103, 101]⟩) id 0)))]) rfl rfl (.cons rfl rfl (.d _) rfl rfl rfl .nil) rfl) rfl) rfl)) rfl ?_
  refine rg_put (d := 5) (v := .ow 102) rfl (og rfl (op_assign rfl rfl rfl)) ?_
  refine rg_done rfl ?_
  refine a_seq ?_
  refine a_rseq ?_
  refine rg_put (d := 6) (v := .d (.fl (.int .i64 0))) rfl (og rfl (op_assign rfl rfl rfl)) ?_
  refine rg_done rfl ?_
  refine a_block ?_
  refine a_loop (ι := Nat) (fun k => SS [(0, .d (.ag (eRs r))), (1, .d (.fl (.string id))), (2, .pt 101 0), (4, .d (.fl (.slice none 0 0))), (6, .d (.fl (.int .i64 (k : Int)))), (5, .ow 102)] [(101, .bx 56 (eRs r)), (102, .tr 81 3 (tD eFc (([(Fc.mk ⟨#[112, 97, 115, 115, 97, 103, 101]⟩ id 0)] ++ (cat (gT r id) r.trips k)))))]) (fun k => k ≤ r.trips.length) (fun k => r.trips.length - k) 0 (by omega) (imp_forget rfl ⟨rfl, rfl, rfl, rfl, (by first | rfl | exact ci (by omega) | exact ci (by simp) | exact cd (by simp) | simp), (by first | rfl | exact ci (by omega) | exact ci (by simp) | exact cd (by simp) | simp), trivial⟩ ⟨rfl, rfl, trivial⟩) (fun k hok => ?_)
  have hk := hok
  have hc1 := cat_len (g := gT r id) (l := r.trips) (c := 2) (fun x _ => gT_len r id x) k hk
  refine a_seq ?_
  refine a_rseq ?_
  refine rg_put (d := 12) (v := .d (.fl (.int .i64 (k : Int)))) rfl (og rfl (op_move rfl rfl rfl)) ?_
  refine rg_put (d := 13) (v := .pt 101 2) rfl (og rfl (of_eff (s_field_pt rfl Tryd.underlying56 rfl ti51 rfl rfl rfl) rfl)) ?_
  refine rg_put (d := 14) (v := .d (.sl 5 (List.map eTp r.trips))) rfl (og rfl (op_load_pt rfl Tryd.underlying51 rfl rfl rfl rfl rfl)) ?_
  refine rg_put (d := 15) (v := .d (.fl (.int .i64 (r.trips.length : Int)))) rfl (og rfl (s_len rfl Tryd.underlying51 rfl rfl)) ?_
  refine rg_put (d := 16) (v := .d (.fl (.bool ((decide ((k : Int) < (r.trips.length : Int))))))) rfl (og rfl (op_bin rfl rfl rfl (b_lss _ _ _ _) rfl)) ?_
  refine rg_done rfl ?_
  refine a_cond rfl (fun h1 => ?_) (fun h1 => ?_)
  · skip
    have h2 := t_dec h1
    refine a_skip ?_
    show A _ _ _ _ _ _ _
    refine a_seq ?_
    refine a_block ?_
    refine a_rseq ?_
    refine rg_put (d := 19) (v := .pt 101 2) rfl (og rfl (of_eff (s_field_pt rfl Tryd.underlying56 rfl ti51 rfl rfl rfl) rfl)) ?_
    refine rg_put (d := 20) (v := .d (.sl 5 (List.map eTp r.trips))) rfl (og rfl (op_load_pt rfl Tryd.underlying51 rfl rfl rfl rfl rfl)) ?_
    refine rg_put (d := 21) (v := .d (.fl (.int .i64 (k : Int)))) rfl (og rfl (op_move rfl rfl rfl)) ?_
    refine rg_put (d := 22) (v := .el ((eTp (ix r.trips k)))) rfl (og rfl (s_index rfl Tryd.underlying51 ti90 rfl rfl (by omega) (row_at (by omega)) rfl)) ?_
    refine rg_put (d := 23) (v := .d (.ag (eTp (ix r.trips k)))) rfl (og rfl (of_eff (s_load_els rfl Tryd.underlying90 rfl ti90 rfl rfl rfl) rfl)) ?_
    refine rg_nam (d := 7) (v := .pt 103 0) (m := 103) (nw := [(103, .bx 90 ([.fl (.string (⟨#[]⟩)), .fl (.string (⟨#[]⟩)), .fl (.string (⟨#[]⟩)), .fl (.int .i64 0), .fl (.slice none 0 0)]))]) rfl (og rfl (of_eff (s_alloc 103 rfl ti90 (by kernel_rfl) rfl) rfl)) rfl ?_
    refine rg_sto (nw := [(103, .bx 90 ((eTp (ix r.trips k))))]) rfl (og rfl (of_eff (s_store rfl rfl ti90 rfl rfl rfl rfl rfl rfl) rfl)) ?_
    refine rg_done rfl ?_
    refine a_seq ?_
    refine a_rseq ?_
    refine rg_put (d := 24) (v := .d (.ag (eTp (ix r.trips k)))) rfl (og rfl (of_eff (s_load_pts rfl Tryd.underlying90 rfl ti90 rfl rfl rfl rfl) rfl)) ?_
    refine rg_put (d := 25) (v := .d (.fl (.string id))) rfl (og rfl (op_move rfl rfl rfl)) ?_
    refine rg_put (d := 26) (v := .d (.fl (.bool ((amg (ix r.trips k) id))))) rfl (og rfl (op_call rfl Tryd.func60 nm60 rfl (.cons rfl (.d _) (.cons rfl (.d _) .nil)) (amg60 (ix r.trips k) id (hs k (by omega)).1) rfl)) ?_
    refine rg_put (d := 27) (v := .d (.fl (.bool ((!((amg (ix r.trips k) id))))))) rfl (og rfl (op_un rfl rfl (u_not _) rfl)) ?_
    refine rg_done rfl ?_
    refine a_cond rfl (fun h3 => ?_) (fun h3 => ?_)
    · skip
      have h4 := t_not h3
      refine a_exit ?_
      show A _ _ _ _ _ _ _
      refine a_region ?_
      refine rg_put (d := 17) (v := .d (.fl (.int .i64 (k : Int)))) rfl (og rfl (op_move rfl rfl rfl)) ?_
      refine rg_put (d := 18) (v := .d (.fl (.int .i64 (((k : Int) + 1))))) rfl (og rfl (op_bin rfl rfl rfl (fun x y w => b_add64 _ _ _ x y w (by omega)) rfl)) ?_
      refine rg_put (d := 6) (v := .d (.fl (.int .i64 (((k : Int) + 1))))) rfl (og rfl (op_assign rfl rfl rfl)) ?_
      refine rg_done rfl ?_
      have hg : gT r id (ix r.trips k) = [] := by unfold gT; rw [if_neg (by rw [h4]; decide)]
      show ∃ i, _ ∧ _ ∧ Imp _ _ _ _ _
      refine ⟨k + 1, (by omega), by omega, imp_forget rfl ⟨rfl, rfl, rfl, rfl, (by first | rfl | exact ci (by omega) | exact ci (by simp) | exact cd (by simp) | simp), rfl, trivial⟩ ⟨rfl, (congrArg (fun z => Ob.tr 81 3 (tD eFc z)) (cat_eq hg (by first | rfl | simp only [List.append_nil] | simp only [List.append_assoc, List.cons_append, List.nil_append]))), trivial⟩⟩
    · skip
      have h5 := f_not h3
      refine a_skip ?_
      show A _ _ _ _ _ _ _
      refine a_rseq ?_
      refine rg_put (d := 28) (v := .ow 102) rfl (og rfl (op_move rfl rfl rfl)) ?_
      refine rg_put (d := 29) (v := .pt 103 0) rfl (og rfl (of_eff (s_field_pt rfl Tryd.underlying90 rfl ti9 rfl rfl rfl) rfl)) ?_
      refine rg_put (d := 30) (v := .d (.fl (.string ((ix r.trips k).id)))) rfl (og rfl (op_load_pt rfl Tryd.underlying9 rfl rfl rfl rfl rfl)) ?_
      refine rg_put (d := 31) (v := .d (.ag (eFc ((Fc.mk (⟨#[116, 114, 105, 112]⟩) ((ix r.trips k).id) 0))))) rfl (og rfl (of_eff (op_build rfl Tryd.underlying81 ti81 rfl (by kernel_rfl) (by kernel_rfl) (pl := #[(0, 1), (1, 1), (2, 1)]) (by kernel_rfl) (.cons rfl rfl (.d _) rfl rfl rfl (.cons rfl rfl (.d _) rfl rfl rfl .nil)) rfl) rfl)) ?_
      refine rg_put (d := 32) (v := .d (.sl 3 (List.map eFc ([(Fc.mk (⟨#[116, 114, 105, 112]⟩) ((ix r.trips k).id) 0)])))) rfl (og rfl (of_eff (op_slices rfl Tryd.underlying69 ti81 rfl rfl rfl (by kernel_rfl) (xs := [.ag (eFc ((Fc.mk (⟨#[116, 114, 105, 112]⟩) ((ix r.trips k).id) 0)))]) rfl rfl (.cons rfl rfl (.d _) rfl rfl rfl .nil) rfl) rfl)) ?_
      refine rg_nam (d := 33) (v := .ow 104) (m := 104) (nw := [(104, .tr 81 3 (tD eFc ((([(Fc.mk ⟨#[112, 97, 115, 115, 97, 103, 101]⟩ id 0)] ++ (cat (gT r id) r.trips k)) ++ [(Fc.mk (⟨#[116, 114, 105, 112]⟩) ((ix r.trips k).id) 0)])))), (102, .no)]) rfl (og rfl (of_eff (s_append_td 104 rfl Tryd.underlying69 ti81 rfl rfl rfl rfl rfl (.d _) (by simp only [List.length_append, List.length_cons, List.length_nil]; omega) rfl) rfl)) rfl ?_
      refine rg_put (d := 5) (v := .ow 104) rfl (og rfl (op_assign rfl rfl rfl)) ?_
      refine rg_done rfl ?_
      refine a_rseq ?_
      refine rg_put (d := 34) (v := .pt 101 4) rfl (og rfl (of_eff (s_field_pt rfl Tryd.underlying56 rfl ti53 rfl rfl rfl) rfl)) ?_
      refine rg_put (d := 35) (v := .d (.sl 7 (List.map eCg r.chg))) rfl (og rfl (op_load_pt rfl Tryd.underlying53 rfl rfl rfl rfl rfl)) ?_
      refine rg_put (d := 36) (v := .pt 103 0) rfl (og rfl (of_eff (s_field_pt rfl Tryd.underlying90 rfl ti9 rfl rfl rfl) rfl)) ?_
      refine rg_put (d := 37) (v := .d (.fl (.string ((ix r.trips k).id)))) rfl (og rfl (op_load_pt rfl Tryd.underlying9 rfl rfl rfl rfl rfl)) ?_
      refine rg_put (d := 38) (v := .d (.fl (.string (((⟨#[116, 58]⟩ : ByteArray) ++ ((ix r.trips k).id)))))) rfl (og rfl (op_bin rfl rfl rfl (fun ox oy ow => b_sadd _ _ _ ox oy ow (by have := (hs k (by omega)).2; show 2 + (ix r.trips k).id.size ≤ _; omega)) rfl)) ?_
      refine rg_put (d := 39) (v := .d (.fl (.int .i64 ((cix r.chg (((⟨#[116, 58]⟩ : ByteArray) ++ ((ix r.trips k).id)))))))) rfl (og rfl (op_call rfl Tryd.func41 nm41 rfl (.cons rfl (.d _) (.cons rfl (.d _) .nil)) (cix41 r.chg (((⟨#[116, 58]⟩ : ByteArray) ++ ((ix r.trips k).id))) (by omega)) rfl)) ?_
      refine rg_put (d := 40) (v := .d (.fl (.bool ((decide (0 ≤ (cix r.chg (((⟨#[116, 58]⟩ : ByteArray) ++ ((ix r.trips k).id)))))))))) rfl (og rfl (op_bin rfl rfl rfl (b_geq _ _ _ _) rfl)) ?_
      refine rg_done rfl ?_
      refine a_cond rfl (fun h6 => ?_) (fun h6 => ?_)
      · skip
        have h7 := t_dec h6
        refine a_region ?_
        refine rg_put (d := 41) (v := .ow 104) rfl (og rfl (op_move rfl rfl rfl)) ?_
        refine rg_put (d := 42) (v := .pt 103 0) rfl (og rfl (of_eff (s_field_pt rfl Tryd.underlying90 rfl ti9 rfl rfl rfl) rfl)) ?_
        refine rg_put (d := 43) (v := .d (.fl (.string ((ix r.trips k).id)))) rfl (og rfl (op_load_pt rfl Tryd.underlying9 rfl rfl rfl rfl rfl)) ?_
        refine rg_put (d := 44) (v := .d (.fl (.string (((⟨#[116, 58]⟩ : ByteArray) ++ ((ix r.trips k).id)))))) rfl (og rfl (op_bin rfl rfl rfl (fun ox oy ow => b_sadd _ _ _ ox oy ow (by have := (hs k (by omega)).2; show 2 + (ix r.trips k).id.size ≤ _; omega)) rfl)) ?_
        refine rg_put (d := 45) (v := .d (.ag (eFc ((Fc.mk (⟨#[99, 104, 97, 114, 103, 101]⟩) (((⟨#[116, 58]⟩ : ByteArray) ++ ((ix r.trips k).id))) 0))))) rfl (og rfl (of_eff (op_build rfl Tryd.underlying81 ti81 rfl (by kernel_rfl) (by kernel_rfl) (pl := #[(0, 1), (1, 1), (2, 1)]) (by kernel_rfl) (.cons rfl rfl (.d _) rfl rfl rfl (.cons rfl rfl (.d _) rfl rfl rfl .nil)) rfl) rfl)) ?_
        refine rg_put (d := 46) (v := .d (.sl 3 (List.map eFc ([(Fc.mk (⟨#[99, 104, 97, 114, 103, 101]⟩) (((⟨#[116, 58]⟩ : ByteArray) ++ ((ix r.trips k).id))) 0)])))) rfl (og rfl (of_eff (op_slices rfl Tryd.underlying69 ti81 rfl rfl rfl (by kernel_rfl) (xs := [.ag (eFc ((Fc.mk (⟨#[99, 104, 97, 114, 103, 101]⟩) (((⟨#[116, 58]⟩ : ByteArray) ++ ((ix r.trips k).id))) 0)))]) rfl rfl (.cons rfl rfl (.d _) rfl rfl rfl .nil) rfl) rfl)) ?_
        refine rg_nam (d := 47) (v := .ow 105) (m := 105) (nw := [(105, .tr 81 3 (tD eFc (((([(Fc.mk ⟨#[112, 97, 115, 115, 97, 103, 101]⟩ id 0)] ++ (cat (gT r id) r.trips k)) ++ [(Fc.mk (⟨#[116, 114, 105, 112]⟩) ((ix r.trips k).id) 0)]) ++ [(Fc.mk (⟨#[99, 104, 97, 114, 103, 101]⟩) (((⟨#[116, 58]⟩ : ByteArray) ++ ((ix r.trips k).id))) 0)])))), (104, .no)]) rfl (og rfl (of_eff (s_append_td 105 rfl Tryd.underlying69 ti81 rfl rfl rfl rfl rfl (.d _) (by simp only [List.length_append, List.length_cons, List.length_nil]; omega) rfl) rfl)) rfl ?_
        refine rg_put (d := 5) (v := .ow 105) rfl (og rfl (op_assign rfl rfl rfl)) ?_
        refine rg_done rfl ?_
        show A _ _ _ _ _ _ _
        refine a_region ?_
        refine rg_put (d := 17) (v := .d (.fl (.int .i64 (k : Int)))) rfl (og rfl (op_move rfl rfl rfl)) ?_
        refine rg_put (d := 18) (v := .d (.fl (.int .i64 (((k : Int) + 1))))) rfl (og rfl (op_bin rfl rfl rfl (fun x y w => b_add64 _ _ _ x y w (by omega)) rfl)) ?_
        refine rg_put (d := 6) (v := .d (.fl (.int .i64 (((k : Int) + 1))))) rfl (og rfl (op_assign rfl rfl rfl)) ?_
        refine rg_done rfl ?_
        have hg : gT r id (ix r.trips k) = [Fc.mk ⟨#[116, 114, 105, 112]⟩ (ix r.trips k).id 0, Fc.mk ⟨#[99, 104, 97, 114, 103, 101]⟩ ((⟨#[116, 58]⟩ : ByteArray) ++ (ix r.trips k).id) 0] := by unfold gT; rw [if_pos h5, if_pos (hasK_of h6)]
        show ∃ i, _ ∧ _ ∧ Imp _ _ _ _ _
        refine ⟨k + 1, (by omega), by omega, imp_ren (fun m => bif Nat.beq m 102 then 105 else m) rfl ⟨rfl, rfl, rfl, rfl, (by first | rfl | exact ci (by omega) | exact ci (by simp) | exact cd (by simp) | simp), rfl, trivial⟩ ⟨rfl, (congrArg (fun z => Ob.tr 81 3 (tD eFc z)) (cat_eq hg (by first | rfl | simp only [List.append_nil] | simp only [List.append_assoc, List.cons_append, List.nil_append]))), trivial⟩⟩
      · skip
        have h8 := f_dec h6
        refine a_skip ?_
        show A _ _ _ _ _ _ _
        refine a_region ?_
        refine rg_put (d := 17) (v := .d (.fl (.int .i64 (k : Int)))) rfl (og rfl (op_move rfl rfl rfl)) ?_
        refine rg_put (d := 18) (v := .d (.fl (.int .i64 (((k : Int) + 1))))) rfl (og rfl (op_bin rfl rfl rfl (fun x y w => b_add64 _ _ _ x y w (by omega)) rfl)) ?_
        refine rg_put (d := 6) (v := .d (.fl (.int .i64 (((k : Int) + 1))))) rfl (og rfl (op_assign rfl rfl rfl)) ?_
        refine rg_done rfl ?_
        have hg : gT r id (ix r.trips k) = [Fc.mk ⟨#[116, 114, 105, 112]⟩ (ix r.trips k).id 0] := by unfold gT; rw [if_pos h5, if_neg (by rw [(hasK_of h6)]; decide)]
        show ∃ i, _ ∧ _ ∧ Imp _ _ _ _ _
        refine ⟨k + 1, (by omega), by omega, imp_ren (fun m => bif Nat.beq m 102 then 104 else m) rfl ⟨rfl, rfl, rfl, rfl, (by first | rfl | exact ci (by omega) | exact ci (by simp) | exact cd (by simp) | simp), rfl, trivial⟩ ⟨rfl, (congrArg (fun z => Ob.tr 81 3 (tD eFc z)) (cat_eq hg (by first | rfl | simp only [List.append_nil] | simp only [List.append_assoc, List.cons_append, List.nil_append]))), trivial⟩⟩
  · skip
    have h9 := f_dec h1
    refine a_exit ?_
    show A _ _ _ _ _ _ _
    refine a_seq ?_
    refine a_rseq ?_
    have hkl : k = r.trips.length := by omega
    rw [show (cat (gT r id) r.trips k) = (cat (gT r id) r.trips r.trips.length) from by rw [hkl]]
    have hc1 := cat_len (g := gT r id) (l := r.trips) (c := 2) (fun x _ => gT_len r id x) r.trips.length (Nat.le_refl _)
    refine rg_put (d := 8) (v := .d (.fl (.int .i64 0))) rfl (og rfl (op_assign rfl rfl rfl)) ?_
    refine rg_done rfl ?_
    refine a_block ?_
    refine a_loop (ι := Nat) (fun j => SS [(0, .d (.ag (eRs r))), (1, .d (.fl (.string id))), (2, .pt 101 0), (4, .d (.fl (.slice none 0 0))), (6, .d (.fl (.int .i64 (k : Int)))), (16, .d (.fl (.bool ((decide ((k : Int) < (r.trips.length : Int))))))), (8, .d (.fl (.int .i64 (j : Int)))), (5, .ow 102)] [(101, .bx 56 (eRs r)), (102, .tr 81 3 (tD eFc ((([(Fc.mk ⟨#[112, 97, 115, 115, 97, 103, 101]⟩ id 0)] ++ (cat (gT r id) r.trips r.trips.length)) ++ (cat (gX id) r.exc j)))))]) (fun j => j ≤ r.exc.length) (fun j => r.exc.length - j) 0 (by omega) (imp_forget rfl ⟨rfl, rfl, rfl, rfl, rfl, rfl, (by first | rfl | exact ci (by omega) | exact ci (by simp) | exact cd (by simp) | simp), (by first | rfl | exact ci (by omega) | exact ci (by simp) | exact cd (by simp) | simp), trivial⟩ ⟨rfl, (congrArg (fun z => Ob.tr 81 3 (tD eFc z)) (List.append_nil _).symm), trivial⟩) (fun j hok => ?_)
    have hj := hok
    have hc2 := cat_len (g := gX id) (l := r.exc) (c := 1) (fun x _ => gX_len id x) j hj
    refine a_seq ?_
    refine a_rseq ?_
    refine rg_put (d := 48) (v := .d (.fl (.int .i64 (j : Int)))) rfl (og rfl (op_move rfl rfl rfl)) ?_
    refine rg_put (d := 49) (v := .pt 101 5) rfl (og rfl (of_eff (s_field_pt rfl Tryd.underlying56 rfl ti54 rfl rfl rfl) rfl)) ?_
    refine rg_put (d := 50) (v := .d (.sl 2 (List.map eEc r.exc))) rfl (og rfl (op_load_pt rfl Tryd.underlying54 rfl rfl rfl rfl rfl)) ?_
    refine rg_put (d := 51) (v := .d (.fl (.int .i64 (r.exc.length : Int)))) rfl (og rfl (s_len rfl Tryd.underlying54 rfl rfl)) ?_
    refine rg_put (d := 52) (v := .d (.fl (.bool ((decide ((j : Int) < (r.exc.length : Int))))))) rfl (og rfl (op_bin rfl rfl rfl (b_lss _ _ _ _) rfl)) ?_
    refine rg_done rfl ?_
    refine a_cond rfl (fun h10 => ?_) (fun h10 => ?_)
    · skip
      have h11 := t_dec h10
      refine a_skip ?_
      show A _ _ _ _ _ _ _
      refine a_seq ?_
      refine a_block ?_
      refine a_rseq ?_
      refine rg_put (d := 55) (v := .pt 101 5) rfl (og rfl (of_eff (s_field_pt rfl Tryd.underlying56 rfl ti54 rfl rfl rfl) rfl)) ?_
      refine rg_put (d := 56) (v := .d (.sl 2 (List.map eEc r.exc))) rfl (og rfl (op_load_pt rfl Tryd.underlying54 rfl rfl rfl rfl rfl)) ?_
      refine rg_put (d := 57) (v := .d (.fl (.int .i64 (j : Int)))) rfl (og rfl (op_move rfl rfl rfl)) ?_
      refine rg_put (d := 58) (v := .el ((eEc (ix r.exc j)))) rfl (og rfl (s_index rfl Tryd.underlying54 ti154 rfl rfl (by omega) (row_at (by omega)) rfl)) ?_
      refine rg_put (d := 59) (v := .el ((List.drop 0 ((eEc (ix r.exc j)))))) rfl (og rfl (of_eff (s_field_el rfl Tryd.underlying154 rfl ti9 rfl rfl rfl) rfl)) ?_
      refine rg_put (d := 60) (v := .d (.fl (.string ((ix r.exc j).id)))) rfl (og rfl (op_load_el rfl Tryd.underlying9 rfl rfl rfl rfl)) ?_
      refine rg_put (d := 61) (v := .d (.fl (.string id))) rfl (og rfl (op_move rfl rfl rfl)) ?_
      refine rg_put (d := 62) (v := .d (.fl (.bool ((sEq ((ix r.exc j).id) id))))) rfl (og rfl (op_bin rfl rfl rfl (b_seq _ _ _) rfl)) ?_
      refine rg_done rfl ?_
      refine a_cond rfl (fun h12 => ?_) (fun h12 => ?_)
      · skip
        refine a_region ?_
        refine rg_put (d := 63) (v := .ow 102) rfl (og rfl (op_move rfl rfl rfl)) ?_
        refine rg_put (d := 64) (v := .d (.fl (.string id))) rfl (og rfl (op_move rfl rfl rfl)) ?_
        refine rg_put (d := 65) (v := .pt 101 5) rfl (og rfl (of_eff (s_field_pt rfl Tryd.underlying56 rfl ti54 rfl rfl rfl) rfl)) ?_
        refine rg_put (d := 66) (v := .d (.sl 2 (List.map eEc r.exc))) rfl (og rfl (op_load_pt rfl Tryd.underlying54 rfl rfl rfl rfl rfl)) ?_
        refine rg_put (d := 67) (v := .d (.fl (.int .i64 (j : Int)))) rfl (og rfl (op_move rfl rfl rfl)) ?_
        refine rg_put (d := 68) (v := .el ((eEc (ix r.exc j)))) rfl (og rfl (s_index rfl Tryd.underlying54 ti154 rfl rfl (by omega) (row_at (by omega)) rfl)) ?_
        refine rg_put (d := 69) (v := .el ((List.drop 1 ((eEc (ix r.exc j)))))) rfl (og rfl (of_eff (s_field_el rfl Tryd.underlying154 rfl ti3 rfl rfl rfl) rfl)) ?_
        refine rg_put (d := 70) (v := .d (.fl (.int .i64 ((ix r.exc j).why)))) rfl (og rfl (op_load_el rfl Tryd.underlying3 rfl rfl rfl rfl)) ?_
        refine rg_put (d := 71) (v := .d (.ag (eFc ((Fc.mk (⟨#[101, 120, 99, 108, 117, 115, 105, 111, 110]⟩) id ((ix r.exc j).why)))))) rfl (og rfl (of_eff (op_build rfl Tryd.underlying81 ti81 rfl (by kernel_rfl) (by kernel_rfl) (pl := #[(0, 1), (1, 1), (2, 1)]) (by kernel_rfl) (.cons rfl rfl (.d _) rfl rfl rfl (.cons rfl rfl (.d _) rfl rfl rfl (.cons rfl rfl (.d _) rfl rfl rfl .nil))) rfl) rfl)) ?_
        refine rg_put (d := 72) (v := .d (.sl 3 (List.map eFc ([(Fc.mk (⟨#[101, 120, 99, 108, 117, 115, 105, 111, 110]⟩) id ((ix r.exc j).why))])))) rfl (og rfl (of_eff (op_slices rfl Tryd.underlying69 ti81 rfl rfl rfl (by kernel_rfl) (xs := [.ag (eFc ((Fc.mk (⟨#[101, 120, 99, 108, 117, 115, 105, 111, 110]⟩) id ((ix r.exc j).why))))]) rfl rfl (.cons rfl rfl (.d _) rfl rfl rfl .nil) rfl) rfl)) ?_
        refine rg_nam (d := 73) (v := .ow 106) (m := 106) (nw := [(106, .tr 81 3 (tD eFc (((([(Fc.mk ⟨#[112, 97, 115, 115, 97, 103, 101]⟩ id 0)] ++ (cat (gT r id) r.trips r.trips.length)) ++ (cat (gX id) r.exc j)) ++ [(Fc.mk (⟨#[101, 120, 99, 108, 117, 115, 105, 111, 110]⟩) id ((ix r.exc j).why))])))), (102, .no)]) rfl (og rfl (of_eff (s_append_td 106 rfl Tryd.underlying69 ti81 rfl rfl rfl rfl rfl (.d _) (by simp only [List.length_append, List.length_cons, List.length_nil]; omega) rfl) rfl)) rfl ?_
        refine rg_put (d := 5) (v := .ow 106) rfl (og rfl (op_assign rfl rfl rfl)) ?_
        refine rg_done rfl ?_
        show A _ _ _ _ _ _ _
        refine a_region ?_
        refine rg_put (d := 53) (v := .d (.fl (.int .i64 (j : Int)))) rfl (og rfl (op_move rfl rfl rfl)) ?_
        refine rg_put (d := 54) (v := .d (.fl (.int .i64 (((j : Int) + 1))))) rfl (og rfl (op_bin rfl rfl rfl (fun x y w => b_add64 _ _ _ x y w (by omega)) rfl)) ?_
        refine rg_put (d := 8) (v := .d (.fl (.int .i64 (((j : Int) + 1))))) rfl (og rfl (op_assign rfl rfl rfl)) ?_
        refine rg_done rfl ?_
        have hg : gX id (ix r.exc j) = [Fc.mk ⟨#[101, 120, 99, 108, 117, 115, 105, 111, 110]⟩ id (ix r.exc j).why] := by unfold gX; rw [if_pos h12]
        show ∃ i, _ ∧ _ ∧ Imp _ _ _ _ _
        refine ⟨j + 1, (by omega), by omega, imp_ren (fun m => bif Nat.beq m 102 then 106 else m) rfl ⟨rfl, rfl, rfl, rfl, rfl, rfl, (by first | rfl | exact ci (by omega) | exact ci (by simp) | exact cd (by simp) | simp), rfl, trivial⟩ ⟨rfl, (congrArg (fun z => Ob.tr 81 3 (tD eFc z)) (cat_eq hg (by first | rfl | simp only [List.append_nil] | simp only [List.append_assoc, List.cons_append, List.nil_append]))), trivial⟩⟩
      · skip
        refine a_skip ?_
        show A _ _ _ _ _ _ _
        refine a_region ?_
        refine rg_put (d := 53) (v := .d (.fl (.int .i64 (j : Int)))) rfl (og rfl (op_move rfl rfl rfl)) ?_
        refine rg_put (d := 54) (v := .d (.fl (.int .i64 (((j : Int) + 1))))) rfl (og rfl (op_bin rfl rfl rfl (fun x y w => b_add64 _ _ _ x y w (by omega)) rfl)) ?_
        refine rg_put (d := 8) (v := .d (.fl (.int .i64 (((j : Int) + 1))))) rfl (og rfl (op_assign rfl rfl rfl)) ?_
        refine rg_done rfl ?_
        have hg : gX id (ix r.exc j) = [] := by unfold gX; rw [if_neg (by rw [h12]; decide)]
        show ∃ i, _ ∧ _ ∧ Imp _ _ _ _ _
        refine ⟨j + 1, (by omega), by omega, imp_forget rfl ⟨rfl, rfl, rfl, rfl, rfl, rfl, (by first | rfl | exact ci (by omega) | exact ci (by simp) | exact cd (by simp) | simp), rfl, trivial⟩ ⟨rfl, (congrArg (fun z => Ob.tr 81 3 (tD eFc z)) (cat_eq hg (by first | rfl | simp only [List.append_nil] | simp only [List.append_assoc, List.cons_append, List.nil_append]))), trivial⟩⟩
    · skip
      have h13 := f_dec h10
      refine a_exit ?_
      show A _ _ _ _ _ _ _
      refine a_rseq ?_
      refine rg_put (d := 74) (v := .ow 102) rfl (og rfl (op_move rfl rfl rfl)) ?_
      refine rg_put (d := 4) (v := .ow 102) rfl (og rfl (op_assign rfl rfl rfl)) ?_
      refine rg_done rfl ?_
      refine a_imp (imp_leakT 4 102 rfl rfl) ?_
      refine a_ret ?_
      show ∃ ds, ResL _ _ _ ds ∧ RV.of ds = _
      refine ⟨[.sl 3 (List.map eFc ((([(Fc.mk ⟨#[112, 97, 115, 115, 97, 103, 101]⟩ id 0)] ++ (cat (gT r id) r.trips r.trips.length)) ++ (cat (gX id) r.exc j))))], (.cons (.tmp rfl (.d _)) .nil), ?_⟩
      have hjl : j = r.exc.length := by omega
      subst hjl
      rfl
end Go.Proofs.YtgfbgkoifcacdaaDoor.Wk
