/- The frames one after another. Conditions: as each theorem names them. -/
import Derived.Shelf.SlSortCmp.NoneTotal
import Derived.Test.YtipkielpicfobaaAvS
import Derived.Test.YtipkielpicfobaaAvX
import Derived.Test.YtipkielpicfobaaAvL
import Derived.Test.YtipkielpicfobaaAvN
import Derived.Test.YtipkielpicfobaaLaid
import Derived.Test.YtipkielpicfobaaO2
set_option linter.unusedSimpArgs false
set_option linter.unusedVariables false
namespace Go.Proofs.Ytipkielpicfobaa.Wk
open Go Go.RowKit Go.Proofs.Ytipkielpicfobaa.Av
set_option maxHeartbeats 4000000 in
set_option maxRecDepth 100000 in
theorem cloS (l : List Sen) (hl : l.length ≤ 1000) : CtrO Try.prog 30 [.sl 11 (List.map eSen l)] (.tr 31 11 (tD eSen l)) := by
  refine ctrO (n := 8) (rs := #[.tmp 2]) (L := [(0, .d (.sl 11 (List.map eSen l)))]) Try.func30 rfl rfl rfl rfl rfl (fun w0 U0 => ?_)
  refine a_rseq ?_
  refine rg_put (d := 2) (v := .d (.fl (.slice none 0 0))) rfl (og rfl (op_assign rfl rfl rfl)) ?_
  refine rg_done rfl ?_
  refine a_seq ?_
  refine a_rseq ?_
  refine rg_put (d := 3) (v := .d (.sl 11 (List.map eSen l))) rfl (og rfl (op_move rfl rfl rfl)) ?_
  refine rg_isnil rfl rfl rfl Try.underlying22 rfl rfl rfl (fun bh1 nh1 => ?_)
  refine rg_done rfl ?_
  refine a_cond rfl (fun h2 => ?_) (fun h2 => ?_)
  · skip
    refine a_rseq ?_
    refine rg_put (d := 2) (v := .d (.fl (.slice none 0 0))) rfl (og rfl (op_assign rfl rfl rfl)) ?_
    refine rg_done rfl ?_
    have hnil : l = [] := by simpa using nh1 h2
    subst hnil
    refine a_imp (imp_nilT 2 101 31 11 rfl rfl) ?_
    refine a_ret ?_
    show ∃ rv, _ = #[rv] ∧ ResO _ _ rv _
    exact ⟨_, rfl, .tmp rfl rfl⟩
  · skip
    refine a_skip ?_
    show A _ _ _ _ _ _ _
    refine a_rseq ?_
    refine rg_nam (d := 5) (v := .ow 102) (m := 102) (nw := [(102, .tr 31 11 (tD eSen []))]) rfl (og rfl (of_eff (op_slice0 102 rfl Try.underlying22 ti31 rfl) rfl)) rfl ?_
    refine rg_put (d := 6) (v := .d (.sl 11 (List.map eSen l))) rfl (og rfl (op_move rfl rfl rfl)) ?_
    refine rg_nam (d := 7) (v := .ow 103) (m := 103) (nw := [(103, .tr 31 11 (tD eSen ([] ++ l))), (102, .no)]) rfl (og rfl (of_eff (s_append_td 103 rfl Try.underlying22 ti31 rfl rfl rfl rfl rfl (.d _) (by simp only [List.length_nil]; omega) rfl) rfl)) rfl ?_
    refine rg_put (d := 2) (v := .ow 103) rfl (og rfl (op_assign rfl rfl rfl)) ?_
    refine rg_done rfl ?_
    refine a_ret ?_
    show ∃ rv, _ = #[rv] ∧ ResO _ _ rv _
    exact ⟨_, rfl, .tmp rfl rfl⟩

theorem sortG : SortG Try.prog 48 11 := ⟨fun β _ enc hk h1 cf hO g cb blk off cap d w eg hc hH hb hs => AnyQ.slices_SortFunc Try.sortP 11 Try.isAgg31 Try.sizeOf31 enc hk h1 cf hO g cb blk off cap d w eg hc hH hb hs, fun p cap fv w => AnyF.slices_SortFunc_none Try.sortP p cap fv w⟩
theorem sortD : SortOkD Try.prog 48 49 [] 11 eSen (fun _ => True) (ltOf cq) := sortOkD_of sortG (fun _ => rfl) (swo_of cq_neg cq_tq) (enters_of Try.func49 (by kernel_rfl) rfl) (fun x y _ _ => cqC x y)
theorem sortG1 : SortG1 Try.prog 31 := ⟨fun enc h1 cf hO g cb blk off cap d w eg hc hH hb hs => Any.slices_SortFunc Try.sortP1 enc h1 cf hO g cb blk off cap d w eg hc hH hb hs, fun p cap fv w => AnyF.slices_SortFunc_none { Try.sortP1 with } p cap fv w⟩
def cf0 (a b : List Sen) : Int := cs (ix a 0) (ix b 0)
theorem cf0_neg (a b : List Sen) : cf0 a b = -(cf0 b a) := cs_neg _ _
theorem cf0_tq (a b c : List Sen) : Tq (cf0 a b) (cf0 b c) (cf0 a c) := cs_tq _ _ _
theorem sortF : SortOkD Try.prog 31 32 [] 1 (rL 11 eSen) (fun r => r.length ≠ 0 ∧ r.length ≤ 100000) (ltOf cf0) := sortOkDX_of (dα := fun r => DV.sl 11 (List.map eSen r)) sortG1 (fun _ => rfl) (swo_of cf0_neg cf0_tq) (enters_of Try.func32 (by kernel_rfl) rfl) (fun x y h1 h2 => cfC1 x y h1 h2)
set_option maxHeartbeats 4000000 in
set_option maxRecDepth 100000 in
theorem fra29 (l : List Sen) (gap : Int) (hl : l.length ≤ 1000) : Ctr Try.prog 29 [.sl 11 (List.map eSen l), .fl (.int .i64 gap)] (.d (.fn 52 [.el [.sl 11 (List.map eSen (srt l))], .el [.fl (.int .i64 gap)]])) := by
  refine ctr (n := 10) (rs := #[.tmp 4]) (L := [(0, .d (.sl 11 (List.map eSen l))), (1, .d (.fl (.int .i64 gap)))]) Try.func29 rfl rfl rfl rfl rfl (fun w0 U0 => ?_)
  refine a_rseq ?_
  refine rg_nam (d := 2) (v := .pt 101 0) (m := 101) (nw := [(101, .bx 22 [.sl 11 (List.map eSen l)])]) rfl (og rfl (of_eff (op_box 101 rfl rfl rfl rfl) rfl)) rfl ?_
  refine rg_nam (d := 3) (v := .pt 102 0) (m := 102) (nw := [(102, .bx 3 [.fl (.int .i64 gap)])]) rfl (og rfl (of_eff (op_box 102 rfl rfl rfl rfl) rfl)) rfl ?_
  refine rg_put (d := 4) (v := .d (.fl (.nilFunc))) rfl (og rfl (op_assign rfl rfl rfl)) ?_
  refine rg_done rfl ?_
  refine a_rseq ?_
  refine rg_imp (imp_bt 101 rfl) ?_
  refine rg_put (d := 5) (v := .d (.sl 11 (List.map eSen l))) rfl (og rfl (op_load_bt rfl Try.underlying22 rfl rfl rfl rfl rfl)) ?_
  refine rg_nam (d := 6) (v := .ow 103) (m := 103) (nw := [(103, .tr 31 11 (tD eSen l))]) rfl (og rfl (of_eff (op_callO 103 rfl Try.func30 nm30 rfl (.cons rfl (.d _) .nil) (cloS l (by omega)) rfl) rfl)) rfl ?_
  refine rg_sto (nw := [(101, .bt 22 [.ow 31 11 (List.map eSen l)]), (103, .no)]) rfl (og rfl (of_eff (op_store_bt rfl rfl ti22 rfl rfl rfl (.tr rfl) rfl rfl rfl) rfl)) ?_
  refine rg_done rfl ?_
  refine a_rseq ?_
  refine rg_lendBt 104 rfl rfl rfl rfl Try.underlying22 rfl rfl rfl rfl rfl rfl rfl (fun uh1 => ?_)
  refine rg_sortE rfl rfl rfl rfl (by rfl) Try.func48 nm48 rfl rfl rfl rfl (fun _ => rfl) (p := fun _ => True) (fun _ _ => trivial) sortD (by omega) (fun l' hp hs => ?_)
  refine rg_imp (imp_back 7 101 104 0 (rows := List.map eSen l') rfl rfl rfl rfl rfl) ?_
  have hle : l' = srt l := srt_eq hp (hs.imp (fun h => le_of_sorted cq_neg h))
  subst hle
  refine rg_imp (imp_leakBt 101 (ds := [.sl 11 (List.map eSen (srt l))]) rfl rfl rfl) ?_
  refine rg_imp (imp_freeze 2 101 rfl rfl) ?_
  refine rg_imp (imp_freeze 3 102 rfl rfl) ?_
  refine rg_done rfl ?_
  refine a_rseq ?_
  refine rg_put (d := 9) (v := .d (.fn 52 [.el [.sl 11 (List.map eSen (srt l))], .el [.fl (.int .i64 gap)]])) rfl (og rfl (op_mkfn rfl (.cons rfl (.cons rfl .nil)) rfl)) ?_
  refine rg_put (d := 4) (v := .d (.fn 52 [.el [.sl 11 (List.map eSen (srt l))], .el [.fl (.int .i64 gap)]])) rfl (og rfl (op_assign rfl rfl rfl)) ?_
  refine rg_done rfl ?_
  refine a_ret ?_
  show ∃ ds, ResL _ _ _ ds ∧ RV.of ds = _
  refine ⟨[.fn 52 [.el [.sl 11 (List.map eSen (srt l))], .el [.fl (.int .i64 gap)]]], (.cons (.tmp rfl (.d _)) .nil), ?_⟩
  rfl
set_option maxHeartbeats 4000000 in
set_option maxRecDepth 100000 in
theorem seqF (L : List Sen) (gap : Int) (hl : L.length ≤ 1000) : SeqD Try.prog 52 [.el [.sl 11 (List.map eSen L)], .el [.fl (.int .i64 gap)]] (List.map (fun r => .sl 11 (List.map eSen r)) (rns L gap L.length)) := by
  refine seqD (n := 40) (L := [(1, .el [.sl 11 (List.map eSen L)]), (2, .el [.fl (.int .i64 gap)])]) Try.func52 rfl rfl rfl rfl rfl (fun w0 U0 stop lq Z J H V Q hw0 hI hP => ?_)
  refine a_rseq ?_
  refine rg_put (d := 4) (v := .d (.fl (.int .i64 0))) rfl (og rfl (op_assign rfl rfl rfl)) ?_
  refine rg_done rfl ?_
  refine a_rseq ?_
  refine rg_put (d := 6) (v := .d (.sl 11 (List.map eSen L))) rfl (og rfl (op_load_el rfl Try.underlying22 rfl rfl rfl rfl)) ?_
  refine rg_put (d := 7) (v := .d (.fl (.int .i64 (L.length : Int)))) rfl (og rfl (s_len rfl Try.underlying22 rfl rfl)) ?_
  refine rg_put (d := 8) (v := .d (.fl (.int .i64 0))) rfl (og rfl (op_move rfl rfl rfl)) ?_
  refine rg_done rfl ?_
  refine a_block ?_
  refine a_loop (ι := Nat × World × (Nat → Nat) × (Nat → Prop)) (fun g => SS [(0, .d (.fl (.func (.yield lq) #[] #[]))), (1, .el [.sl 11 (List.map eSen L)]), (2, .el [.fl (.int .i64 gap)]), (7, .d (.fl (.int .i64 (L.length : Int)))), (8, .d (.fl (.int .i64 (g.1 : Int)))), (4, .d (.fl (.int .i64 (((fr0 L gap g.1) : Int)))))] [(0, .pin g.2.1 g.2.2.1 g.2.2.2)]) (fun g => g.1 ≤ L.length ∧ ItP Z J w0 (rns L gap g.1).length g.2.1 g.2.2.1 g.2.2.2 ∧ ∀ i, i < (rns L gap g.1).length → stop i = false) (fun g => L.length - g.1) (0, H, V, Q) (⟨by (show 0 ≤ L.length); omega, hP, fun i hi => absurd hi (by simp [rns])⟩) (imp_forget rfl ⟨rfl, rfl, rfl, rfl, rfl, rfl, trivial⟩ ⟨rfl, trivial⟩) (fun g hok => ?_)
  obtain ⟨hk, hgP, hgs⟩ := hok
  have hfr := fr0_le L gap g.1
  refine a_rseq ?_
  refine rg_put (d := 9) (v := .d (.fl (.bool ((decide ((g.1 : Int) < (L.length : Int))))))) rfl (og rfl (op_bin rfl rfl rfl (b_lss _ _ _ _) rfl)) ?_
  refine rg_done rfl ?_
  refine a_seq ?_
  refine a_cond rfl (fun h1 => ?_) (fun h1 => ?_)
  · skip
    have h2 := t_dec h1
    refine a_skip ?_
    show A _ _ _ _ _ _ _
    refine a_seq ?_
    refine a_block ?_
    refine a_rseq ?_
    refine rg_put (d := 10) (v := .d (.fl (.int .i64 (g.1 : Int)))) rfl (og rfl (op_move rfl rfl rfl)) ?_
    refine rg_put (d := 5) (v := .d (.fl (.int .i64 (g.1 : Int)))) rfl (og rfl (op_assign rfl rfl rfl)) ?_
    refine rg_done rfl ?_
    refine a_seq ?_
    refine a_dseq (by kernel_rfl) ?_
    refine dr_put (d := 11) (v := .d (.fl (.int .i64 (g.1 : Int)))) rfl (og rfl (op_move rfl rfl rfl)) ?_
    refine dr_put (d := 12) (v := .d (.fl (.int .i64 (((g.1 : Int) + 1))))) rfl (og rfl (op_bin rfl rfl rfl (fun x y w => b_add64 _ _ _ x y w (by omega)) rfl)) ?_
    refine dr_put (d := 13) (v := .d (.sl 11 (List.map eSen L))) rfl (og rfl (op_load_el rfl Try.underlying22 rfl rfl rfl rfl)) ?_
    refine dr_put (d := 14) (v := .d (.fl (.int .i64 (L.length : Int)))) rfl (og rfl (s_len rfl Try.underlying22 rfl rfl)) ?_
    refine dr_put (d := 15) (v := .d (.fl (.bool ((decide (((g.1 : Int) + 1) < (L.length : Int))))))) rfl (og rfl (op_bin rfl rfl rfl (b_lss _ _ _ _) rfl)) ?_
    refine dr_put (d := 16) (v := .d (.fl (.bool ((decide (((g.1 : Int) + 1) < (L.length : Int))))))) rfl (og rfl (op_move rfl rfl rfl)) ?_
    rcases fot ((decide (((g.1 : Int) + 1) < (L.length : Int)))) with h3 | h3
    · skip
      have h4 := f_dec h3
      refine dr_put (d := 17) (v := .d (.fl undef)) rfl (on rfl rfl rfl h3) ?_
      refine dr_put (d := 18) (v := .d (.fl undef)) rfl (on rfl rfl rfl h3) ?_
      refine dr_put (d := 19) (v := .d (.fl undef)) rfl (on rfl rfl rfl h3) ?_
      refine dr_put (d := 20) (v := .d (.fl undef)) rfl (on rfl rfl rfl h3) ?_
      refine dr_put (d := 21) (v := .d (.fl undef)) rfl (on rfl rfl rfl h3) ?_
      refine dr_put (d := 22) (v := .d (.fl undef)) rfl (on rfl rfl rfl h3) ?_
      refine dr_put (d := 23) (v := .d (.fl undef)) rfl (on rfl rfl rfl h3) ?_
      refine dr_put (d := 24) (v := .d (.fl undef)) rfl (on rfl rfl rfl h3) ?_
      refine dr_put (d := 25) (v := .d (.fl undef)) rfl (on rfl rfl rfl h3) ?_
      refine dr_put (d := 26) (v := .d (.fl undef)) rfl (on rfl rfl rfl h3) ?_
      refine dr_put (d := 27) (v := .d (.fl undef)) rfl (on rfl rfl rfl h3) ?_
      refine dr_put (d := 28) (v := .d (.fl (.bool false))) rfl (og rfl (op_pick rfl rfl (by rw [h3]; rfl) rfl)) ?_
      refine dr_done rfl (sepB_of [0, 1, 0, 4, 15, 31, 63, 63, 255, 511, 63, 63, 2111, 7231, 15423, 63, 65535, 131071] (by kernel_rfl)) (by kernel_rfl) ?_
      refine a_condF rfl rfl ?_
      refine a_skip ?_
      show A _ _ _ _ _ _ _
      refine a_seq ?_
      refine a_rseqI ?_
      have hg1 : (((g.1 : Int) + 1)).toNat = g.1 + 1 := by omega
      have hbk : brk L gap g.1 = true := brk_end _ _ (by omega)
      refine ri_put (d := 29) (v := .d (.fl (.func (.yield lq) #[] #[]))) rfl (og rfl (op_move rfl rfl rfl)) ?_
      refine ri_put (d := 30) (v := .d (.sl 11 (List.map eSen L))) rfl (og rfl (op_load_el rfl Try.underlying22 rfl rfl rfl rfl)) ?_
      refine ri_put (d := 31) (v := .d (.fl (.int .i64 (((fr0 L gap g.1) : Int))))) rfl (og rfl (op_move rfl rfl rfl)) ?_
      refine ri_put (d := 32) (v := .d (.fl (.int .i64 (g.1 : Int)))) rfl (og rfl (op_move rfl rfl rfl)) ?_
      refine ri_put (d := 33) (v := .d (.fl (.int .i64 (((g.1 : Int) + 1))))) rfl (og rfl (op_bin rfl rfl rfl (fun x y w => b_add64 _ _ _ x y w (by omega)) rfl)) ?_
      refine ri_put (d := 34) (v := .d (.sl 11 (List.map eSen (((L.drop (fr0 L gap g.1)).take ((((g.1 : Int) + 1)).toNat - (fr0 L gap g.1))))))) rfl (og rfl (s_slice rfl Try.underlying22 ti31 rfl (.so (n := (fr0 L gap g.1)) _ rfl (by omega)) (.so (n := (((g.1 : Int) + 1)).toNat) _ rfl (by omega)) (by omega) (by omega) rfl)) ?_
      refine ri_yield hI (q := (rns L gap g.1).length) (x := .sl 11 (List.map eSen ((L.drop (fr0 L gap g.1)).take ((((g.1 : Int) + 1)).toNat - (fr0 L gap g.1))))) rfl rfl rfl rfl (.inl rfl) rfl rfl (rns_at (by omega) hbk) hgs rfl hgP hw0 rfl (fun H1 V1 Q1 hP1 => ?_)
      refine ri_of ?_
      show RG _ _ _ _ _ _ (SS _ _) _
      refine rg_put (d := 36) (v := .d (.fl (.bool ((!((!stop ((rns L gap g.1).length)))))))) rfl (og rfl (op_un rfl rfl (u_not _) rfl)) ?_
      refine rg_done rfl ?_
      refine a_cond rfl (fun h5 => ?_) (fun h5 => ?_)
      · skip
        have h6 := t_not h5
        have h7 := f_not h6
        refine a_ret ?_
        show ∃ k H V Q, _ ∧ _ ∧ _
        exact ⟨(rns L gap g.1).length + 1, _, _, _, rfl, hP1, .inr ⟨(rns L gap g.1).length, rfl, by rw [List.length_map]; exact rns_lt (by omega) hbk, h7, hgs⟩⟩
      · skip
        have h8 := f_not h5
        have h9 := t_not h8
        refine a_skip ?_
        show A _ _ _ _ _ _ _
        refine a_region ?_
        refine rg_put (d := 37) (v := .d (.fl (.int .i64 (g.1 : Int)))) rfl (og rfl (op_move rfl rfl rfl)) ?_
        refine rg_put (d := 38) (v := .d (.fl (.int .i64 (((g.1 : Int) + 1))))) rfl (og rfl (op_bin rfl rfl rfl (fun x y w => b_add64 _ _ _ x y w (by omega)) rfl)) ?_
        refine rg_put (d := 4) (v := .d (.fl (.int .i64 (((g.1 : Int) + 1))))) rfl (og rfl (op_assign rfl rfl rfl)) ?_
        refine rg_done rfl ?_
        show A _ _ _ _ _ _ _
        refine a_region ?_
        refine rg_put (d := 39) (v := .d (.fl (.int .i64 (((g.1 : Int) + 1))))) rfl (og rfl (op_bin rfl rfl rfl (fun x y w => b_add64 _ _ _ x y w (by omega)) rfl)) ?_
        refine rg_put (d := 8) (v := .d (.fl (.int .i64 (((g.1 : Int) + 1))))) rfl (og rfl (op_move rfl rfl rfl)) ?_
        refine rg_done rfl ?_
        show ∃ i, _ ∧ _ ∧ Imp _ _ _ _ _
        refine ⟨(g.1 + 1, H1, V1, Q1), ⟨by (show g.1 + 1 ≤ L.length); omega, by (show ItP _ _ _ (rns L gap (g.1 + 1)).length _ _ _; rw [rns_y hbk, List.length_append]; exact hP1), fun i hi => by (have hi2 : i < (rns L gap (g.1 + 1)).length := hi; rw [rns_y hbk, List.length_append] at hi2; rcases Nat.lt_or_ge i (rns L gap g.1).length with hlt | hge; exact hgs i hlt; rw [show i = (rns L gap g.1).length by simp at hi2; omega]; exact h9)⟩, (by (show L.length - (g.1 + 1) < L.length - g.1); omega), imp_forget rfl ⟨rfl, rfl, rfl, rfl, (ci (by omega)), (ci (by show ((g.1 : Int) + 1) = ((fr0 L gap (g.1 + 1) : Nat) : Int); rw [fr0_y hbk]; omega)), trivial⟩ ⟨rfl, trivial⟩⟩
    · skip
      have h10 := t_dec h3
      refine dr_put (d := 17) (v := .d (.sl 11 (List.map eSen L))) rfl (oy rfl rfl rfl h3 (op_load_el rfl Try.underlying22 rfl rfl rfl rfl)) ?_
      refine dr_put (d := 18) (v := .d (.fl (.int .i64 (g.1 : Int)))) rfl (oy rfl rfl rfl h3 (op_move rfl rfl rfl)) ?_
      refine dr_put (d := 19) (v := .el ((eSen (ix L g.1)))) rfl (oy rfl rfl rfl h3 (s_index rfl Try.underlying22 ti31 rfl rfl (by omega) (row_at (by omega)) rfl)) ?_
      refine dr_put (d := 20) (v := .d (.ag (eSen (ix L g.1)))) rfl (oy rfl rfl rfl h3 (of_eff (s_load_els rfl Try.underlying31 rfl ti31 rfl rfl rfl) rfl)) ?_
      refine dr_put (d := 21) (v := .d (.sl 11 (List.map eSen L))) rfl (oy rfl rfl rfl h3 (op_load_el rfl Try.underlying22 rfl rfl rfl rfl)) ?_
      refine dr_put (d := 22) (v := .d (.fl (.int .i64 (g.1 : Int)))) rfl (oy rfl rfl rfl h3 (op_move rfl rfl rfl)) ?_
      refine dr_put (d := 23) (v := .d (.fl (.int .i64 (((g.1 : Int) + 1))))) rfl (oy rfl rfl rfl h3 (op_bin rfl rfl rfl (fun x y w => b_add64 _ _ _ x y w (by omega)) rfl)) ?_
      refine dr_put (d := 24) (v := .el ((eSen ((ix L (((g.1 : Int) + 1)).toNat))))) rfl (oy rfl rfl rfl h3 (s_index rfl Try.underlying22 ti31 rfl rfl (by omega) (row_atI (by omega) (by omega)) rfl)) ?_
      refine dr_put (d := 25) (v := .d (.ag (eSen (((ix L (((g.1 : Int) + 1)).toNat)))))) rfl (oy rfl rfl rfl h3 (of_eff (s_load_els rfl Try.underlying31 rfl ti31 rfl rfl rfl) rfl)) ?_
      refine dr_put (d := 26) (v := .d (.fl (.int .i64 gap))) rfl (oy rfl rfl rfl h3 (op_load_el rfl Try.underlying3 rfl rfl rfl rfl)) ?_
      refine dr_put (d := 27) (v := .d (.fl (.bool ((clB (ix L g.1) (((ix L (((g.1 : Int) + 1)).toNat))) gap))))) rfl (oy rfl rfl rfl h3 (op_call rfl Try.func42 nm42 rfl (.cons rfl (.d _) (.cons rfl (.d _) (.cons rfl (.d _) .nil))) (clC (ix L g.1) (((ix L (((g.1 : Int) + 1)).toNat))) gap) rfl)) ?_
      refine dr_put (d := 28) (v := .d (.fl (.bool ((clB (ix L g.1) (((ix L (((g.1 : Int) + 1)).toNat))) gap))))) rfl (og rfl (op_pick rfl rfl (by rw [h3]; rfl) rfl)) ?_
      refine dr_done rfl (sepB_of [0, 1, 0, 4, 15, 31, 63, 63, 255, 511, 63, 63, 2111, 7231, 15423, 63, 65535, 131071] (by kernel_rfl)) (by kernel_rfl) ?_
      refine a_cond rfl (fun h11 => ?_) (fun h11 => ?_)
      · skip
        refine a_exit ?_
        show A _ _ _ _ _ _ _
        refine a_region ?_
        refine rg_put (d := 39) (v := .d (.fl (.int .i64 (((g.1 : Int) + 1))))) rfl (og rfl (op_bin rfl rfl rfl (fun x y w => b_add64 _ _ _ x y w (by omega)) rfl)) ?_
        refine rg_put (d := 8) (v := .d (.fl (.int .i64 (((g.1 : Int) + 1))))) rfl (og rfl (op_move rfl rfl rfl)) ?_
        refine rg_done rfl ?_
        have hg1 : (((g.1 : Int) + 1)).toNat = g.1 + 1 := by omega
        have hbk : brk L gap g.1 = false := by have h := h11; rw [hg1] at h; unfold brk; rw [h3, h]; rfl
        show ∃ i, _ ∧ _ ∧ Imp _ _ _ _ _
        refine ⟨(g.1 + 1, g.2.1, g.2.2.1, g.2.2.2), ⟨by (show g.1 + 1 ≤ L.length); omega, by (show ItP _ _ _ (rns L gap (g.1 + 1)).length _ _ _; rw [rns_n hbk]; exact hgP), fun i hi => by (have hi2 : i < (rns L gap (g.1 + 1)).length := hi; rw [rns_n hbk] at hi2; exact hgs i hi2)⟩, (by (show L.length - (g.1 + 1) < L.length - g.1); omega), imp_forget rfl ⟨rfl, rfl, rfl, rfl, (ci (by omega)), (ci (by show ((fr0 L gap g.1 : Nat) : Int) = ((fr0 L gap (g.1 + 1) : Nat) : Int); rw [fr0_n hbk])), trivial⟩ ⟨rfl, trivial⟩⟩
      · skip
        refine a_skip ?_
        show A _ _ _ _ _ _ _
        refine a_seq ?_
        refine a_rseqI ?_
        have hg1 : (((g.1 : Int) + 1)).toNat = g.1 + 1 := by omega
        have hbk : brk L gap g.1 = true := by have h := h11; rw [hg1] at h; unfold brk; rw [h, Bool.and_false]; rfl
        refine ri_put (d := 29) (v := .d (.fl (.func (.yield lq) #[] #[]))) rfl (og rfl (op_move rfl rfl rfl)) ?_
        refine ri_put (d := 30) (v := .d (.sl 11 (List.map eSen L))) rfl (og rfl (op_load_el rfl Try.underlying22 rfl rfl rfl rfl)) ?_
        refine ri_put (d := 31) (v := .d (.fl (.int .i64 (((fr0 L gap g.1) : Int))))) rfl (og rfl (op_move rfl rfl rfl)) ?_
        refine ri_put (d := 32) (v := .d (.fl (.int .i64 (g.1 : Int)))) rfl (og rfl (op_move rfl rfl rfl)) ?_
        refine ri_put (d := 33) (v := .d (.fl (.int .i64 (((g.1 : Int) + 1))))) rfl (og rfl (op_bin rfl rfl rfl (fun x y w => b_add64 _ _ _ x y w (by omega)) rfl)) ?_
        refine ri_put (d := 34) (v := .d (.sl 11 (List.map eSen (((L.drop (fr0 L gap g.1)).take ((((g.1 : Int) + 1)).toNat - (fr0 L gap g.1))))))) rfl (og rfl (s_slice rfl Try.underlying22 ti31 rfl (.so (n := (fr0 L gap g.1)) _ rfl (by omega)) (.so (n := (((g.1 : Int) + 1)).toNat) _ rfl (by omega)) (by omega) (by omega) rfl)) ?_
        refine ri_yield hI (q := (rns L gap g.1).length) (x := .sl 11 (List.map eSen ((L.drop (fr0 L gap g.1)).take ((((g.1 : Int) + 1)).toNat - (fr0 L gap g.1))))) rfl rfl rfl rfl (.inl rfl) rfl rfl (rns_at (by omega) hbk) hgs rfl hgP hw0 rfl (fun H2 V2 Q2 hP2 => ?_)
        refine ri_of ?_
        show RG _ _ _ _ _ _ (SS _ _) _
        refine rg_put (d := 36) (v := .d (.fl (.bool ((!((!stop ((rns L gap g.1).length)))))))) rfl (og rfl (op_un rfl rfl (u_not _) rfl)) ?_
        refine rg_done rfl ?_
        refine a_cond rfl (fun h12 => ?_) (fun h12 => ?_)
        · skip
          have h13 := t_not h12
          have h14 := f_not h13
          refine a_ret ?_
          show ∃ k H V Q, _ ∧ _ ∧ _
          exact ⟨(rns L gap g.1).length + 1, _, _, _, rfl, hP2, .inr ⟨(rns L gap g.1).length, rfl, by rw [List.length_map]; exact rns_lt (by omega) hbk, h14, hgs⟩⟩
        · skip
          have h15 := f_not h12
          have h16 := t_not h15
          refine a_skip ?_
          show A _ _ _ _ _ _ _
          refine a_region ?_
          refine rg_put (d := 37) (v := .d (.fl (.int .i64 (g.1 : Int)))) rfl (og rfl (op_move rfl rfl rfl)) ?_
          refine rg_put (d := 38) (v := .d (.fl (.int .i64 (((g.1 : Int) + 1))))) rfl (og rfl (op_bin rfl rfl rfl (fun x y w => b_add64 _ _ _ x y w (by omega)) rfl)) ?_
          refine rg_put (d := 4) (v := .d (.fl (.int .i64 (((g.1 : Int) + 1))))) rfl (og rfl (op_assign rfl rfl rfl)) ?_
          refine rg_done rfl ?_
          show A _ _ _ _ _ _ _
          refine a_region ?_
          refine rg_put (d := 39) (v := .d (.fl (.int .i64 (((g.1 : Int) + 1))))) rfl (og rfl (op_bin rfl rfl rfl (fun x y w => b_add64 _ _ _ x y w (by omega)) rfl)) ?_
          refine rg_put (d := 8) (v := .d (.fl (.int .i64 (((g.1 : Int) + 1))))) rfl (og rfl (op_move rfl rfl rfl)) ?_
          refine rg_done rfl ?_
          show ∃ i, _ ∧ _ ∧ Imp _ _ _ _ _
          refine ⟨(g.1 + 1, H2, V2, Q2), ⟨by (show g.1 + 1 ≤ L.length); omega, by (show ItP _ _ _ (rns L gap (g.1 + 1)).length _ _ _; rw [rns_y hbk, List.length_append]; exact hP2), fun i hi => by (have hi2 : i < (rns L gap (g.1 + 1)).length := hi; rw [rns_y hbk, List.length_append] at hi2; rcases Nat.lt_or_ge i (rns L gap g.1).length with hlt | hge; exact hgs i hlt; rw [show i = (rns L gap g.1).length by simp at hi2; omega]; exact h16)⟩, (by (show L.length - (g.1 + 1) < L.length - g.1); omega), imp_forget rfl ⟨rfl, rfl, rfl, rfl, (ci (by omega)), (ci (by show ((g.1 : Int) + 1) = ((fr0 L gap (g.1 + 1) : Nat) : Int); rw [fr0_y hbk]; omega)), trivial⟩ ⟨rfl, trivial⟩⟩
  · skip
    have h17 := f_dec h1
    refine a_exit ?_
    show ∃ k H V Q, _ ∧ _ ∧ _
    exact ⟨(rns L gap g.1).length, _, _, _, rfl, hgP, .inl ⟨by rw [List.length_map, show g.1 = L.length by omega], hgs⟩⟩
end Go.Proofs.Ytipkielpicfobaa.Wk
