/- Explanations of charges. Conditions: lists of at most 1000 elements, strings that are not too long. -/
import Derived.Test.YtgfbgkoifcacdaaDoorB5
set_option linter.unusedSimpArgs false
set_option linter.unusedVariables false
namespace Go.Proofs.YtgfbgkoifcacdaaDoor.Wk
open Go Go.RowKit Go.Proofs.YtgfbgkoifcacdaaDoor.Av
def gL (x : Ln) : List Fc := [Fc.mk ⟨#[108, 105, 110, 101]⟩ x.text 0]
theorem gL_len (x : Ln) : (gL x).length ≤ 1 := by unfold gL; simp
def stp (r : Rs) (t : Tp) : List Fc := cat (gS r) t.stops t.stops.length
def tix (r : Rs) (key : ByteArray) : Int := idx (fun y : Tp => sEq (tk y.id) key) r.trips
def six (r : Rs) (key : ByteArray) : Int := idx (fun y : Sy => sEq (pk y.id) key) r.stays
theorem tix_in (r : Rs) (key : ByteArray) : -1 ≤ tix r key ∧ tix r key < (r.trips.length : Int) := idx_in _ _
theorem six_in (r : Rs) (key : ByteArray) : -1 ≤ six r key ∧ six r key < (r.stays.length : Int) := idx_in _ _
theorem cix_in (l : List Cg) (key : ByteArray) : -1 ≤ cix l key ∧ cix l key < (l.length : Int) := idx_in _ _
def tF (r : Rs) (key : ByteArray) : List Fc := if decide (0 ≤ tix r key) = true then [Fc.mk ⟨#[116, 114, 105, 112]⟩ (ix r.trips (tix r key).toNat).id 0] ++ stp r (ix r.trips (tix r key).toNat) else []
def yF (r : Rs) (key : ByteArray) : List Fc := if decide (0 ≤ six r key) = true then [Fc.mk ⟨#[115, 116, 97, 121]⟩ (ix r.stays (six r key).toNat).id 0] else []
def aF (s : Sa) (x : Cg) : List Fc := if (own s.cfg.acc x.veh x.time).2 = true then [Fc.mk ⟨#[97, 99, 99, 111, 117, 110, 116]⟩ (own s.cfg.acc x.veh x.time).1 0] else [Fc.mk ⟨#[118, 101, 104, 105, 99, 108, 101]⟩ x.veh 17]
def pF (s : Sa) (key : ByteArray) : List Fc := if hasK s.books.done key = true then [Fc.mk ⟨#[112, 111, 115, 116, 101, 100]⟩ key 0] else []
def chg (s : Sa) (key : ByteArray) : List Fc × Int := if decide (cix s.res.chg key < 0) = true then ([], 10) else
  (((((([Fc.mk ⟨#[99, 104, 97, 114, 103, 101]⟩ key 0] ++ cat gL (ix s.res.chg (cix s.res.chg key).toNat).lines (ix s.res.chg (cix s.res.chg key).toNat).lines.length) ++ tF s.res key) ++ yF s.res key) ++ aF s (ix s.res.chg (cix s.res.chg key).toNat)) ++ pF s key), 0)
theorem chg_no {s : Sa} {key : ByteArray} (h : decide (cix s.res.chg key < 0) = true) : chg s key = ([], 10) := if_pos h
theorem chg_yes {s : Sa} {key : ByteArray} (h : decide (cix s.res.chg key < 0) = false) : chg s key = (((((([Fc.mk ⟨#[99, 104, 97, 114, 103, 101]⟩ key 0] ++ cat gL (ix s.res.chg (cix s.res.chg key).toNat).lines (ix s.res.chg (cix s.res.chg key).toNat).lines.length) ++ tF s.res key) ++ yF s.res key) ++ aF s (ix s.res.chg (cix s.res.chg key).toNat)) ++ pF s key), 0) := if_neg (by rw [h]; decide)
theorem tF_yes {r : Rs} {key : ByteArray} (h : decide (0 ≤ tix r key) = true) : tF r key = [Fc.mk ⟨#[116, 114, 105, 112]⟩ (ix r.trips (tix r key).toNat).id 0] ++ stp r (ix r.trips (tix r key).toNat) := if_pos h
theorem tF_no {r : Rs} {key : ByteArray} (h : decide (0 ≤ tix r key) = false) : tF r key = [] := if_neg (by rw [h]; decide)
theorem yF_yes {r : Rs} {key : ByteArray} (h : decide (0 ≤ six r key) = true) : yF r key = [Fc.mk ⟨#[115, 116, 97, 121]⟩ (ix r.stays (six r key).toNat).id 0] := if_pos h
theorem yF_no {r : Rs} {key : ByteArray} (h : decide (0 ≤ six r key) = false) : yF r key = [] := if_neg (by rw [h]; decide)
theorem aF_yes {s : Sa} {x : Cg} (h : (own s.cfg.acc x.veh x.time).2 = true) : aF s x = [Fc.mk ⟨#[97, 99, 99, 111, 117, 110, 116]⟩ (own s.cfg.acc x.veh x.time).1 0] := if_pos h
theorem aF_no {s : Sa} {x : Cg} (h : (own s.cfg.acc x.veh x.time).2 = false) : aF s x = [Fc.mk ⟨#[118, 101, 104, 105, 99, 108, 101]⟩ x.veh 17] := if_neg (by rw [h]; decide)
theorem pF_yes {s : Sa} {key : ByteArray} (h : hasK s.books.done key = true) : pF s key = [Fc.mk ⟨#[112, 111, 115, 116, 101, 100]⟩ key 0] := if_pos h
theorem pF_no {s : Sa} {key : ByteArray} (h : hasK s.books.done key = false) : pF s key = [] := if_neg (by rw [h]; decide)
def tB (r : Rs) (key : ByteArray) (b : Bool) : List Fc := if b = true then tF r key else []
def yB (r : Rs) (key : ByteArray) (b : Bool) : List Fc := if b = true then yF r key else []
theorem tF_at {r : Rs} {key : ByteArray} {k : Nat} (hk : k < r.trips.length) (h : ∀ q, q < k → sEq (tk (ix r.trips q).id) key = false) (hp : sEq (tk (ix r.trips k).id) key = true) : tF r key = [Fc.mk ⟨#[116, 114, 105, 112]⟩ (ix r.trips k).id 0] ++ stp r (ix r.trips k) := by
  have e : tix r key = (k : Int) := idx_at hk h hp
  rw [tF_yes (by rw [e]; exact decide_eq_true (by omega)), e]; rfl
theorem yF_at {r : Rs} {key : ByteArray} {k : Nat} (hk : k < r.stays.length) (h : ∀ q, q < k → sEq (pk (ix r.stays q).id) key = false) (hp : sEq (pk (ix r.stays k).id) key = true) : yF r key = [Fc.mk ⟨#[115, 116, 97, 121]⟩ (ix r.stays k).id 0] := by
  have e : six r key = (k : Int) := idx_at hk h hp
  rw [yF_yes (by rw [e]; exact decide_eq_true (by omega)), e]; rfl
theorem tB_end {r : Rs} {key : ByteArray} {b : Bool} (h : b = false → ∀ q, q < r.trips.length → sEq (tk (ix r.trips q).id) key = false) : tB r key b = tF r key := by
  cases b with
  | true => rfl
  | false =>
    have e : tix r key = -1 := idx_no (h rfl)
    rw [tF_no (by rw [e]; rfl)]; rfl
theorem yB_end {r : Rs} {key : ByteArray} {b : Bool} (h : b = false → ∀ q, q < r.stays.length → sEq (pk (ix r.stays q).id) key = false) : yB r key b = yF r key := by
  cases b with
  | true => rfl
  | false =>
    have e : six r key = -1 := idx_no (h rfl)
    rw [yF_no (by rw [e]; rfl)]; rfl
theorem stp_len {r : Rs} (h : okR r) (t : Tp) (ht : t.stops.length ≤ 1000) : (stp r t).length ≤ 1001000 := by
  have := cat_len (g := gS r) (l := t.stops) (c := 1001) (fun x _ => gS_len h x) _ (Nat.le_refl _)
  unfold stp; omega
theorem tF_len {r : Rs} {key : ByteArray} (h : okT r) : (tF r key).length ≤ 1001001 := by
  unfold tF
  split
  · rename_i h1
    have h2 := of_decide_eq_true h1
    have h3 := tix_in r key
    have := stp_len h.2.2.2.2.2.2.2.2 (ix r.trips (tix r key).toNat) (h.2.2.2.2.2.1 _ (by omega)).1
    simp only [List.length_append, List.length_cons, List.length_nil]
    omega
  · simp
theorem yF_len {r : Rs} {key : ByteArray} : (yF r key).length ≤ 1 := by unfold yF; split <;> simp
theorem tB_len {r : Rs} {key : ByteArray} {b : Bool} (h : okT r) : (tB r key b).length ≤ 1001001 := by
  unfold tB; split
  · exact tF_len h
  · simp
theorem yB_len {r : Rs} {key : ByteArray} {b : Bool} : (yB r key b).length ≤ 1 := by
  unfold yB; split
  · exact yF_len
  · simp
theorem st36s (r : Rs) (t : Tp) (hr : okR r) (hl : t.stops.length ≤ 1000) : CtrK Tryd.prog KK 36 [.ag (eRs r), .ag (eTp t)] (.d (.sl 3 (List.map eFc (stp r t)))) := by
  have h := st36 r t hr hl
  rw [List.nil_append] at h
  exact h

set_option maxHeartbeats 4000000 in
set_option maxRecDepth 100000 in
theorem chg14 (s : Sa) (key : ByteArray) (hs : okSt s) : CtrK Tryd.prog KK 14 [.ag (eSa s), .fl (.string key)] (.tu [.sl 3 (List.map eFc (chg s key).1), .fl (.int .i64 (chg s key).2)]) := by
  obtain ⟨hs1, hs2, hT, hs4, hs5, hs6⟩ := hs
  have hci := cix_in s.res.chg key
  refine ctrK (n := 111) (rs := #[.tmp 4, .tmp 5]) (L := [(0, .d (.ag (eSa s))), (1, .d (.fl (.string key)))]) Tryd.func14 rfl rfl rfl rfl rfl (fun w0 U0 hG => ?_)
  refine a_rseq ?_
  refine rg_nam (d := 2) (v := .pt 101 0) (m := 101) (nw := [(101, .bx 64 (eSa s))]) rfl (og rfl (of_eff (op_box 101 rfl rfl rfl rfl) rfl)) rfl ?_
  refine rg_nam (d := 3) (v := .pt 102 0) (m := 102) (nw := [(102, .bx 9 [.fl (.string key)])]) rfl (og rfl (of_eff (op_box 102 rfl rfl rfl rfl) rfl)) rfl ?_
  refine rg_put (d := 4) (v := .d (.fl (.slice none 0 0))) rfl (og rfl (op_assign rfl rfl rfl)) ?_
  refine rg_put (d := 5) (v := .d (.fl (.int .i64 0))) rfl (og rfl (op_assign rfl rfl rfl)) ?_
  refine rg_done rfl ?_
  refine a_rseq ?_
  refine rg_put (d := 17) (v := .pt 101 29) rfl (og rfl (of_eff (s_field_pt rfl Tryd.underlying64 rfl ti56 rfl rfl rfl) rfl)) ?_
  refine rg_put (d := 18) (v := .d (.ag (eRs s.res))) rfl (og rfl (of_eff (s_load_pts rfl Tryd.underlying56 rfl ti56 rfl rfl rfl rfl) rfl)) ?_
  refine rg_nam (d := 6) (v := .pt 103 0) (m := 103) (nw := [(103, .bx 56 [.fl (.slice none 0 0), .fl (.slice none 0 0), .fl (.slice none 0 0), .fl (.slice none 0 0), .fl (.slice none 0 0), .fl (.slice none 0 0)])]) rfl (og rfl (of_eff (s_alloc 103 rfl ti56 (by kernel_rfl) rfl) rfl)) rfl ?_
  refine rg_sto (nw := [(103, .bx 56 (eRs s.res))]) rfl (og rfl (of_eff (s_store rfl rfl ti56 rfl rfl rfl rfl rfl rfl) rfl)) ?_
  refine rg_done rfl ?_
  refine a_rseq ?_
  refine rg_put (d := 19) (v := .pt 103 4) rfl (og rfl (of_eff (s_field_pt rfl Tryd.underlying56 rfl ti53 rfl rfl rfl) rfl)) ?_
  refine rg_put (d := 20) (v := .d (.sl 7 (List.map eCg s.res.chg))) rfl (og rfl (op_load_pt rfl Tryd.underlying53 rfl rfl rfl rfl rfl)) ?_
  refine rg_imp (imp_freeze 3 102 rfl rfl) ?_
  refine rg_put (d := 21) (v := .d (.fn 32 [.el [.fl (.string key)]])) rfl (og rfl (op_mkfn rfl (.cons rfl .nil) rfl)) ?_
  refine rg_put (d := 22) (v := .d (.fl (.int .i64 (cix s.res.chg key)))) rfl (og rfl (op_call rfl Tryd.func31 nm31 rfl (.cons rfl (.d _) (.cons rfl (.d _) .nil)) (ix31a s.res.chg key (by have := hT.2.2.1; omega)) rfl)) ?_
  refine rg_put (d := 7) (v := .d (.fl (.int .i64 (cix s.res.chg key)))) rfl (og rfl (op_assign rfl rfl rfl)) ?_
  refine rg_done rfl ?_
  refine a_seq ?_
  refine a_rseq ?_
  refine rg_put (d := 23) (v := .d (.fl (.int .i64 (cix s.res.chg key)))) rfl (og rfl (op_move rfl rfl rfl)) ?_
  refine rg_put (d := 24) (v := .d (.fl (.bool ((decide ((cix s.res.chg key) < 0)))))) rfl (og rfl (op_bin rfl rfl rfl (b_lss _ _ _ _) rfl)) ?_
  refine rg_done rfl ?_
  refine a_cond rfl (fun h1 => ?_) (fun h1 => ?_)
  · skip
    have h2 := t_dec h1
    refine a_rseq ?_
    refine rg_put (d := 4) (v := .d (.fl (.slice none 0 0))) rfl (og rfl (op_assign rfl rfl rfl)) ?_
    refine rg_put (d := 5) (v := .d (.fl (.int .i64 10))) rfl (og rfl (op_assign rfl rfl rfl)) ?_
    refine rg_done rfl ?_
    refine a_ret ?_
    show ∃ ds, ResL _ _ _ ds ∧ RV.of ds = _
    refine ⟨[.sl 3 (List.map eFc []), .fl (.int .i64 10)], (.cons (.tmp rfl (.cv (Cv.nil _))) (.cons (.tmp rfl (.d _)) .nil)), ?_⟩
    rw [chg_no h1]; rfl
  · skip
    have h3 := f_dec h1
    refine a_skip ?_
    show A _ _ _ _ _ _ _
    refine a_rseq ?_
    refine rg_put (d := 25) (v := .pt 103 4) rfl (og rfl (of_eff (s_field_pt rfl Tryd.underlying56 rfl ti53 rfl rfl rfl) rfl)) ?_
    refine rg_put (d := 26) (v := .d (.sl 7 (List.map eCg s.res.chg))) rfl (og rfl (op_load_pt rfl Tryd.underlying53 rfl rfl rfl rfl rfl)) ?_
    refine rg_put (d := 27) (v := .d (.fl (.int .i64 (cix s.res.chg key)))) rfl (og rfl (op_move rfl rfl rfl)) ?_
    refine rg_put (d := 28) (v := .el ((eCg ((ix s.res.chg ((cix s.res.chg key)).toNat))))) rfl (og rfl (s_index rfl Tryd.underlying53 ti93 rfl rfl (by omega) (row_atI (by omega) (by omega)) rfl)) ?_
    refine rg_put (d := 29) (v := .d (.ag (eCg (((ix s.res.chg ((cix s.res.chg key)).toNat)))))) rfl (og rfl (of_eff (s_load_els rfl Tryd.underlying93 rfl ti93 rfl rfl rfl) rfl)) ?_
    refine rg_nam (d := 8) (v := .pt 104 0) (m := 104) (nw := [(104, .bx 93 ([.fl (.string (⟨#[]⟩)), .fl (.string (⟨#[]⟩)), .fl (.string (⟨#[]⟩)), .fl (.int .i64 0), .fl (.int .i64 0), .fl (.slice none 0 0), .fl (.int .i64 0)]))]) rfl (og rfl (of_eff (s_alloc 104 rfl ti93 (by kernel_rfl) rfl) rfl)) rfl ?_
    refine rg_sto (nw := [(104, .bx 93 ((eCg (((ix s.res.chg ((cix s.res.chg key)).toNat))))))]) rfl (og rfl (of_eff (s_store rfl rfl ti93 rfl rfl rfl rfl rfl rfl) rfl)) ?_
    refine rg_done rfl ?_
    refine a_rseq ?_
    refine rg_nam (d := 9) (v := .pt 105 0) (m := 105) (nw := [(105, .bx 69 [.fl (.slice none 0 0)])]) rfl (og rfl (of_eff (s_alloc 105 rfl ti69 (by kernel_rfl) rfl) rfl)) rfl ?_
    refine rg_done rfl ?_
    refine a_rseq ?_
    refine rg_imp (imp_bt 105 rfl) ?_
    refine rg_imp (imp_btnil 105 0 81 3 rfl rfl) ?_
    refine rg_put (d := 30) (v := .cl 33 [.p 105]) rfl (og rfl (op_mkcl rfl (.p rfl .nil) rfl)) ?_
    refine rg_put (d := 10) (v := .cl 33 [.p 105]) rfl (og rfl (op_assign rfl rfl rfl)) ?_
    refine rg_done rfl ?_
    refine a_rseq ?_
    refine rg_put (d := 31) (v := .cl 33 [.p 105]) rfl (og rfl (op_move rfl rfl rfl)) ?_
    refine rg_put (d := 32) (v := .d (.fl (.string key))) rfl (og rfl (op_load_el rfl Tryd.underlying9 rfl rfl rfl rfl)) ?_
    refine rg_upd (d := 33) (v := .tu []) (nw := [(105, .bt 69 [.ow 81 3 (List.map eFc (([] ++ [(Fc.mk (⟨#[99, 104, 97, 114, 103, 101]⟩) key 0)])))])]) rfl (og rfl (of_eff (op_callXV [105] (obs := [.bt 69 [.ow 81 3 (List.map eFc [])]]) (obs' := [.bt 69 [.ow 81 3 (List.map eFc (([] ++ [(Fc.mk (⟨#[99, 104, 97, 114, 103, 101]⟩) key 0)])))]]) (r := .tu []) rfl ⟨_, Tryd.func33, nm33, rfl⟩ rfl (.d rfl (.d _) (.d rfl (.d _) (.d rfl (.d _) .nil))) (.p 0 rfl .nil) rfl (And.intro rfl trivial) rfl rfl rfl (add33 [] (⟨#[99, 104, 97, 114, 103, 101]⟩) key 0 (by simp only [List.length_append, List.length_cons, List.length_nil]; omega)) rfl) rfl)) ?_
    refine rg_done rfl ?_
    refine a_seq ?_
    refine a_rseq ?_
    refine rg_put (d := 34) (v := .pt 104 5) rfl (og rfl (of_eff (s_field_pt rfl Tryd.underlying93 rfl ti91 rfl rfl rfl) rfl)) ?_
    refine rg_put (d := 35) (v := .d (.sl 2 (List.map eLn ((((ix s.res.chg ((cix s.res.chg key)).toNat))).lines)))) rfl (og rfl (op_load_pt rfl Tryd.underlying91 rfl rfl rfl rfl rfl)) ?_
    refine rg_put (d := 36) (v := .d (.fl (.int .i64 ((((((ix s.res.chg ((cix s.res.chg key)).toNat))).lines).length : Int))))) rfl (og rfl (s_len rfl Tryd.underlying91 rfl rfl)) ?_
    refine rg_put (d := 37) (v := .d (.fl (.int .i64 0))) rfl (og rfl (op_move rfl rfl rfl)) ?_
    refine rg_done rfl ?_
    refine a_block ?_
    refine a_loop (ι := Nat) (fun k => SS [(0, .d (.ag (eSa s))), (1, .d (.fl (.string key))), (2, .pt 101 0), (3, .el [.fl (.string key)]), (4, .d (.fl (.slice none 0 0))), (5, .d (.fl (.int .i64 0))), (6, .pt 103 0), (7, .d (.fl (.int .i64 (cix s.res.chg key)))), (8, .pt 104 0), (9, .pt 105 0), (10, .cl 33 [.p 105]), (24, .d (.fl (.bool ((decide ((cix s.res.chg key) < 0)))))), (35, .d (.sl 2 (List.map eLn ((((ix s.res.chg ((cix s.res.chg key)).toNat))).lines)))), (36, .d (.fl (.int .i64 ((((((ix s.res.chg ((cix s.res.chg key)).toNat))).lines).length : Int))))), (37, .d (.fl (.int .i64 (k : Int))))] [(101, .bx 64 (eSa s)), (103, .bx 56 (eRs s.res)), (104, .bx 93 ((eCg (((ix s.res.chg ((cix s.res.chg key)).toNat)))))), (105, .bt 69 [.ow 81 3 (List.map eFc (([(Fc.mk ⟨#[99, 104, 97, 114, 103, 101]⟩ key 0)] ++ (cat gL (ix s.res.chg (cix s.res.chg key).toNat).lines k))))])]) (fun k => k ≤ (ix s.res.chg (cix s.res.chg key).toNat).lines.length) (fun k => (ix s.res.chg (cix s.res.chg key).toNat).lines.length - k) 0 (by omega) (imp_forget rfl ⟨rfl, rfl, rfl, rfl, rfl, rfl, rfl, rfl, rfl, rfl, rfl, rfl, rfl, rfl, (by first | rfl | exact ci (by omega) | exact ci (by simp) | exact cd (by simp) | simp), trivial⟩ ⟨rfl, rfl, rfl, rfl, trivial⟩) (fun k hok => ?_)
    have hk := hok
    have hc1 := cat_len (g := gL) (l := (ix s.res.chg (cix s.res.chg key).toNat).lines) (c := 1) (fun x _ => gL_len x) k hk
    have hll := hT.2.2.2.2.2.2.2.1 (cix s.res.chg key).toNat (by omega)
    refine a_rseq ?_
    refine rg_put (d := 38) (v := .d (.fl (.bool ((decide ((k : Int) < (((((ix s.res.chg ((cix s.res.chg key)).toNat))).lines).length : Int))))))) rfl (og rfl (op_bin rfl rfl rfl (b_lss _ _ _ _) rfl)) ?_
    refine rg_done rfl ?_
    refine a_seq ?_
    refine a_cond rfl (fun h4 => ?_) (fun h4 => ?_)
    · skip
      have h5 := t_dec h4
      refine a_skip ?_
      show A _ _ _ _ _ _ _
      refine a_seq ?_
      refine a_block ?_
      refine a_rseq ?_
      refine rg_put (d := 39) (v := .el ((eLn ((ix ((((ix s.res.chg ((cix s.res.chg key)).toNat))).lines) k))))) rfl (og rfl (s_index rfl Tryd.underlying91 ti102 rfl rfl (by omega) (row_at (by omega)) rfl)) ?_
      refine rg_put (d := 40) (v := .d (.ag (eLn (((ix ((((ix s.res.chg ((cix s.res.chg key)).toNat))).lines) k)))))) rfl (og rfl (of_eff (s_load_els rfl Tryd.underlying102 rfl ti102 rfl rfl rfl) rfl)) ?_
      refine rg_nam (d := 12) (v := .pt 106 0) (m := 106) (nw := [(106, .bx 102 ([.fl (.string (⟨#[]⟩)), .fl (.int .i64 0)]))]) rfl (og rfl (of_eff (s_alloc 106 rfl ti102 (by kernel_rfl) rfl) rfl)) rfl ?_
      refine rg_sto (nw := [(106, .bx 102 ((eLn (((ix ((((ix s.res.chg ((cix s.res.chg key)).toNat))).lines) k))))))]) rfl (og rfl (of_eff (s_store rfl rfl ti102 rfl rfl rfl rfl rfl rfl) rfl)) ?_
      refine rg_done rfl ?_
      refine a_region ?_
      refine rg_put (d := 41) (v := .cl 33 [.p 105]) rfl (og rfl (op_move rfl rfl rfl)) ?_
      refine rg_put (d := 42) (v := .pt 106 0) rfl (og rfl (of_eff (s_field_pt rfl Tryd.underlying102 rfl ti9 rfl rfl rfl) rfl)) ?_
      refine rg_put (d := 43) (v := .d (.fl (.string ((((ix ((((ix s.res.chg ((cix s.res.chg key)).toNat))).lines) k))).text)))) rfl (og rfl (op_load_pt rfl Tryd.underlying9 rfl rfl rfl rfl rfl)) ?_
      refine rg_upd (d := 44) (v := .tu []) (nw := [(105, .bt 69 [.ow 81 3 (List.map eFc ((([(Fc.mk ⟨#[99, 104, 97, 114, 103, 101]⟩ key 0)] ++ (cat gL (ix s.res.chg (cix s.res.chg key).toNat).lines k)) ++ [(Fc.mk (⟨#[108, 105, 110, 101]⟩) ((((ix ((((ix s.res.chg ((cix s.res.chg key)).toNat))).lines) k))).text) 0)])))])]) rfl (og rfl (of_eff (op_callXV [105] (obs := [.bt 69 [.ow 81 3 (List.map eFc (([(Fc.mk ⟨#[99, 104, 97, 114, 103, 101]⟩ key 0)] ++ (cat gL (ix s.res.chg (cix s.res.chg key).toNat).lines k))))]]) (obs' := [.bt 69 [.ow 81 3 (List.map eFc ((([(Fc.mk ⟨#[99, 104, 97, 114, 103, 101]⟩ key 0)] ++ (cat gL (ix s.res.chg (cix s.res.chg key).toNat).lines k)) ++ [(Fc.mk (⟨#[108, 105, 110, 101]⟩) ((((ix ((((ix s.res.chg ((cix s.res.chg key)).toNat))).lines) k))).text) 0)])))]]) (r := .tu []) rfl ⟨_, Tryd.func33, nm33, rfl⟩ rfl (.d rfl (.d _) (.d rfl (.d _) (.d rfl (.d _) .nil))) (.p 0 rfl .nil) rfl (And.intro rfl trivial) rfl rfl rfl (add33 (([(Fc.mk ⟨#[99, 104, 97, 114, 103, 101]⟩ key 0)] ++ (cat gL (ix s.res.chg (cix s.res.chg key).toNat).lines k))) (⟨#[108, 105, 110, 101]⟩) ((((ix ((((ix s.res.chg ((cix s.res.chg key)).toNat))).lines) k))).text) 0 (by simp only [List.length_append, List.length_cons, List.length_nil]; omega)) rfl) rfl)) ?_
      refine rg_done rfl ?_
      show A _ _ _ _ _ _ _
      refine a_region ?_
      refine rg_put (d := 45) (v := .d (.fl (.int .i64 (((k : Int) + 1))))) rfl (og rfl (op_bin rfl rfl rfl (fun x y w => b_add64 _ _ _ x y w (by omega)) rfl)) ?_
      refine rg_put (d := 37) (v := .d (.fl (.int .i64 (((k : Int) + 1))))) rfl (og rfl (op_move rfl rfl rfl)) ?_
      refine rg_done rfl ?_
      have hg : gL (ix (ix s.res.chg (cix s.res.chg key).toNat).lines k) = [Fc.mk ⟨#[108, 105, 110, 101]⟩ (ix (ix s.res.chg (cix s.res.chg key).toNat).lines k).text 0] := rfl
      show ∃ i, _ ∧ _ ∧ Imp _ _ _ _ _
      refine ⟨k + 1, (by omega), by omega, imp_forget rfl ⟨rfl, rfl, rfl, rfl, rfl, rfl, rfl, rfl, rfl, rfl, rfl, rfl, rfl, rfl, (by first | rfl | exact ci (by omega) | exact ci (by simp) | exact cd (by simp) | simp), trivial⟩ ⟨rfl, rfl, rfl, (congrArg (fun z => Ob.bt 69 [OC.ow 81 3 (List.map eFc z)]) (cat_eq hg rfl)), trivial⟩⟩
    · skip
      have h6 := f_dec h4
      refine a_exit ?_
      show A _ _ _ _ _ _ _
      refine a_seq ?_
      refine a_rseq ?_
      have hkl : k = (ix s.res.chg (cix s.res.chg key).toNat).lines.length := by omega
      rw [show (cat gL (ix s.res.chg (cix s.res.chg key).toNat).lines k) = (cat gL (ix s.res.chg (cix s.res.chg key).toNat).lines (ix s.res.chg (cix s.res.chg key).toNat).lines.length) from by rw [hkl]]
      have hll := hT.2.2.2.2.2.2.2.1 (cix s.res.chg key).toNat (by omega)
      have hc1 := cat_len (g := gL) (l := (ix s.res.chg (cix s.res.chg key).toNat).lines) (c := 1) (fun x _ => gL_len x) (ix s.res.chg (cix s.res.chg key).toNat).lines.length (Nat.le_refl _)
      have htx := tix_in s.res key
      have hsx := six_in s.res key
      refine rg_put (d := 46) (v := .pt 103 2) rfl (og rfl (of_eff (s_field_pt rfl Tryd.underlying56 rfl ti51 rfl rfl rfl) rfl)) ?_
      refine rg_put (d := 47) (v := .d (.sl 5 (List.map eTp s.res.trips))) rfl (og rfl (op_load_pt rfl Tryd.underlying51 rfl rfl rfl rfl rfl)) ?_
      refine rg_put (d := 48) (v := .d (.fn 35 [.el [.fl (.string key)]])) rfl (og rfl (op_mkfn rfl (.cons rfl .nil) rfl)) ?_
      refine rg_put (d := 49) (v := .d (.fl (.int .i64 (tix s.res key)))) rfl (og rfl (op_call rfl Tryd.func34 nm34 rfl (.cons rfl (.d _) (.cons rfl (.d _) .nil)) (ix34 s.res.trips key (by have := hT.1; omega) (fun q h => (hT.2.2.2.2.2.1 q h).2)) rfl)) ?_
      refine rg_put (d := 13) (v := .d (.fl (.int .i64 (tix s.res key)))) rfl (og rfl (op_assign rfl rfl rfl)) ?_
      refine rg_done rfl ?_
      refine a_rseq ?_
      refine rg_put (d := 50) (v := .d (.fl (.int .i64 (tix s.res key)))) rfl (og rfl (op_move rfl rfl rfl)) ?_
      refine rg_put (d := 51) (v := .d (.fl (.bool ((decide (0 ≤ (tix s.res key))))))) rfl (og rfl (op_bin rfl rfl rfl (b_geq _ _ _ _) rfl)) ?_
      refine rg_done rfl ?_
      refine a_cond rfl (fun h7 => ?_) (fun h7 => ?_)
      · skip
        have h8 := t_dec h7
        refine a_rseq ?_
        refine rg_put (d := 52) (v := .cl 33 [.p 105]) rfl (og rfl (op_move rfl rfl rfl)) ?_
        refine rg_put (d := 53) (v := .pt 103 2) rfl (og rfl (of_eff (s_field_pt rfl Tryd.underlying56 rfl ti51 rfl rfl rfl) rfl)) ?_
        refine rg_put (d := 54) (v := .d (.sl 5 (List.map eTp s.res.trips))) rfl (og rfl (op_load_pt rfl Tryd.underlying51 rfl rfl rfl rfl rfl)) ?_
        refine rg_put (d := 55) (v := .d (.fl (.int .i64 (tix s.res key)))) rfl (og rfl (op_move rfl rfl rfl)) ?_
        refine rg_put (d := 56) (v := .el ((eTp ((ix s.res.trips ((tix s.res key)).toNat))))) rfl (og rfl (s_index rfl Tryd.underlying51 ti90 rfl rfl (by omega) (row_atI (by omega) (by omega)) rfl)) ?_
        refine rg_put (d := 57) (v := .el ((List.drop 0 ((eTp ((ix s.res.trips ((tix s.res key)).toNat))))))) rfl (og rfl (of_eff (s_field_el rfl Tryd.underlying90 rfl ti9 rfl rfl rfl) rfl)) ?_
        refine rg_put (d := 58) (v := .d (.fl (.string (((ix s.res.trips ((tix s.res key)).toNat)).id)))) rfl (og rfl (op_load_el rfl Tryd.underlying9 rfl rfl rfl rfl)) ?_
        refine rg_upd (d := 59) (v := .tu []) (nw := [(105, .bt 69 [.ow 81 3 (List.map eFc ((([(Fc.mk ⟨#[99, 104, 97, 114, 103, 101]⟩ key 0)] ++ (cat gL (ix s.res.chg (cix s.res.chg key).toNat).lines (ix s.res.chg (cix s.res.chg key).toNat).lines.length)) ++ [(Fc.mk (⟨#[116, 114, 105, 112]⟩) (((ix s.res.trips ((tix s.res key)).toNat)).id) 0)])))])]) rfl (og rfl (of_eff (op_callXV [105] (obs := [.bt 69 [.ow 81 3 (List.map eFc (([(Fc.mk ⟨#[99, 104, 97, 114, 103, 101]⟩ key 0)] ++ (cat gL (ix s.res.chg (cix s.res.chg key).toNat).lines (ix s.res.chg (cix s.res.chg key).toNat).lines.length))))]]) (obs' := [.bt 69 [.ow 81 3 (List.map eFc ((([(Fc.mk ⟨#[99, 104, 97, 114, 103, 101]⟩ key 0)] ++ (cat gL (ix s.res.chg (cix s.res.chg key).toNat).lines (ix s.res.chg (cix s.res.chg key).toNat).lines.length)) ++ [(Fc.mk (⟨#[116, 114, 105, 112]⟩) (((ix s.res.trips ((tix s.res key)).toNat)).id) 0)])))]]) (r := .tu []) rfl ⟨_, Tryd.func33, nm33, rfl⟩ rfl (.d rfl (.d _) (.d rfl (.d _) (.d rfl (.d _) .nil))) (.p 0 rfl .nil) rfl (And.intro rfl trivial) rfl rfl rfl (add33 (([(Fc.mk ⟨#[99, 104, 97, 114, 103, 101]⟩ key 0)] ++ (cat gL (ix s.res.chg (cix s.res.chg key).toNat).lines (ix s.res.chg (cix s.res.chg key).toNat).lines.length))) (⟨#[116, 114, 105, 112]⟩) (((ix s.res.trips ((tix s.res key)).toNat)).id) 0 (by simp only [List.length_append, List.length_cons, List.length_nil]; omega)) rfl) rfl)) ?_
        refine rg_done rfl ?_
        refine a_draw (by kernel_rfl) ?_
        have hsl := stp_len hT.2.2.2.2.2.2.2.2 (ix s.res.trips (tix s.res key).toNat) (hT.2.2.2.2.2.1 _ (by omega)).1
        refine dr_nam (d := 60) (v := .ow 107) (m := 107) (nw := [(107, .tr 81 3 (tD eFc ((([(Fc.mk ⟨#[99, 104, 97, 114, 103, 101]⟩ key 0)] ++ (cat gL (ix s.res.chg (cix s.res.chg key).toNat).lines (ix s.res.chg (cix s.res.chg key).toNat).lines.length)) ++ [(Fc.mk (⟨#[116, 114, 105, 112]⟩) (((ix s.res.trips ((tix s.res key)).toNat)).id) 0)])))), (105, .bt 69 [.un])]) rfl (og rfl (of_eff (op_takeBt 107 rfl Tryd.underlying69 rfl rfl rfl rfl rfl rfl) rfl)) ?_
        refine dr_put (d := 61) (v := .d (.ag (eRs s.res))) rfl (og rfl (of_eff (s_load_pts rfl Tryd.underlying56 rfl ti56 rfl rfl rfl rfl) rfl)) ?_
        refine dr_put (d := 62) (v := .pt 103 2) rfl (og rfl (of_eff (s_field_pt rfl Tryd.underlying56 rfl ti51 rfl rfl rfl) rfl)) ?_
        refine dr_put (d := 63) (v := .d (.sl 5 (List.map eTp s.res.trips))) rfl (og rfl (op_load_pt rfl Tryd.underlying51 rfl rfl rfl rfl rfl)) ?_
        refine dr_put (d := 64) (v := .d (.fl (.int .i64 (tix s.res key)))) rfl (og rfl (op_move rfl rfl rfl)) ?_
        refine dr_put (d := 65) (v := .el ((eTp ((ix s.res.trips ((tix s.res key)).toNat))))) rfl (og rfl (s_index rfl Tryd.underlying51 ti90 rfl rfl (by omega) (row_atI (by omega) (by omega)) rfl)) ?_
        refine dr_put (d := 66) (v := .d (.ag (eTp (((ix s.res.trips ((tix s.res key)).toNat)))))) rfl (og rfl (of_eff (s_load_els rfl Tryd.underlying90 rfl ti90 rfl rfl rfl) rfl)) ?_
        refine dr_put (d := 67) (v := .d (.sl 3 (List.map eFc ((stp s.res (((ix s.res.trips ((tix s.res key)).toNat)))))))) rfl (og rfl (op_callK kkst hG rfl Tryd.func36 nm36 rfl (.cons rfl (.d _) (.cons rfl (.d _) .nil)) (st36s s.res (((ix s.res.trips ((tix s.res key)).toNat))) hT.2.2.2.2.2.2.2.2 (hT.2.2.2.2.2.1 _ (by omega)).1) rfl)) ?_
        refine dr_nam (d := 68) (v := .ow 108) (m := 108) (nw := [(108, .tr 81 3 (tD eFc (((([(Fc.mk ⟨#[99, 104, 97, 114, 103, 101]⟩ key 0)] ++ (cat gL (ix s.res.chg (cix s.res.chg key).toNat).lines (ix s.res.chg (cix s.res.chg key).toNat).lines.length)) ++ [(Fc.mk (⟨#[116, 114, 105, 112]⟩) (((ix s.res.trips ((tix s.res key)).toNat)).id) 0)]) ++ (stp s.res (((ix s.res.trips ((tix s.res key)).toNat)))))))), (107, .no)]) rfl (og rfl (of_eff (s_append_td 108 rfl Tryd.underlying69 ti81 rfl rfl rfl rfl rfl (.d _) (by simp only [List.length_append, List.length_cons, List.length_nil]; omega) rfl) rfl)) ?_
        refine dr_sto (nw := [(105, .bt 69 [.ow 81 3 (List.map eFc (((([(Fc.mk ⟨#[99, 104, 97, 114, 103, 101]⟩ key 0)] ++ (cat gL (ix s.res.chg (cix s.res.chg key).toNat).lines (ix s.res.chg (cix s.res.chg key).toNat).lines.length)) ++ [(Fc.mk (⟨#[116, 114, 105, 112]⟩) (((ix s.res.trips ((tix s.res key)).toNat)).id) 0)]) ++ (stp s.res (((ix s.res.trips ((tix s.res key)).toNat)))))))]), (108, .no)]) rfl (og rfl (of_eff (op_store_bt rfl rfl ti69 rfl rfl rfl (.tr rfl) rfl rfl rfl) rfl)) ?_
        refine dr_done rfl (by kernel_rfl) (by kernel_rfl) ?_
        show A _ _ _ _ _ _ _
        refine a_seq ?_
        refine a_rseq ?_
        refine rg_put (d := 69) (v := .pt 103 3) rfl (og rfl (of_eff (s_field_pt rfl Tryd.underlying56 rfl ti52 rfl rfl rfl) rfl)) ?_
        refine rg_put (d := 70) (v := .d (.sl 5 (List.map eSy s.res.stays))) rfl (og rfl (op_load_pt rfl Tryd.underlying52 rfl rfl rfl rfl rfl)) ?_
        refine rg_put (d := 71) (v := .d (.fn 38 [.el [.fl (.string key)]])) rfl (og rfl (op_mkfn rfl (.cons rfl .nil) rfl)) ?_
        refine rg_put (d := 72) (v := .d (.fl (.int .i64 (six s.res key)))) rfl (og rfl (op_call rfl Tryd.func37 nm37 rfl (.cons rfl (.d _) (.cons rfl (.d _) .nil)) (ix37 s.res.stays key (by have := hT.2.2.2.2.1; omega) (fun q h => hT.2.2.2.2.2.2.1 q h)) rfl)) ?_
        refine rg_put (d := 14) (v := .d (.fl (.int .i64 (six s.res key)))) rfl (og rfl (op_assign rfl rfl rfl)) ?_
        refine rg_done rfl ?_
        refine a_rseq ?_
        refine rg_put (d := 73) (v := .d (.fl (.int .i64 (six s.res key)))) rfl (og rfl (op_move rfl rfl rfl)) ?_
        refine rg_put (d := 74) (v := .d (.fl (.bool ((decide (0 ≤ (six s.res key))))))) rfl (og rfl (op_bin rfl rfl rfl (b_geq _ _ _ _) rfl)) ?_
        refine rg_done rfl ?_
        refine a_cond rfl (fun h9 => ?_) (fun h9 => ?_)
        · skip
          have h10 := t_dec h9
          refine a_region ?_
          refine rg_put (d := 75) (v := .cl 33 [.p 105]) rfl (og rfl (op_move rfl rfl rfl)) ?_
          refine rg_put (d := 76) (v := .pt 103 3) rfl (og rfl (of_eff (s_field_pt rfl Tryd.underlying56 rfl ti52 rfl rfl rfl) rfl)) ?_
          refine rg_put (d := 77) (v := .d (.sl 5 (List.map eSy s.res.stays))) rfl (og rfl (op_load_pt rfl Tryd.underlying52 rfl rfl rfl rfl rfl)) ?_
          refine rg_put (d := 78) (v := .d (.fl (.int .i64 (six s.res key)))) rfl (og rfl (op_move rfl rfl rfl)) ?_
          refine rg_put (d := 79) (v := .el ((eSy ((ix s.res.stays ((six s.res key)).toNat))))) rfl (og rfl (s_index rfl Tryd.underlying52 ti126 rfl rfl (by omega) (row_atI (by omega) (by omega)) rfl)) ?_
          refine rg_put (d := 80) (v := .el ((List.drop 0 ((eSy ((ix s.res.stays ((six s.res key)).toNat))))))) rfl (og rfl (of_eff (s_field_el rfl Tryd.underlying126 rfl ti9 rfl rfl rfl) rfl)) ?_
          refine rg_put (d := 81) (v := .d (.fl (.string (((ix s.res.stays ((six s.res key)).toNat)).id)))) rfl (og rfl (op_load_el rfl Tryd.underlying9 rfl rfl rfl rfl)) ?_
          refine rg_upd (d := 82) (v := .tu []) (nw := [(105, .bt 69 [.ow 81 3 (List.map eFc ((((([(Fc.mk ⟨#[99, 104, 97, 114, 103, 101]⟩ key 0)] ++ (cat gL (ix s.res.chg (cix s.res.chg key).toNat).lines (ix s.res.chg (cix s.res.chg key).toNat).lines.length)) ++ [(Fc.mk (⟨#[116, 114, 105, 112]⟩) (((ix s.res.trips ((tix s.res key)).toNat)).id) 0)]) ++ (stp s.res (((ix s.res.trips ((tix s.res key)).toNat))))) ++ [(Fc.mk (⟨#[115, 116, 97, 121]⟩) (((ix s.res.stays ((six s.res key)).toNat)).id) 0)])))])]) rfl (og rfl (of_eff (op_callXV [105] (obs := [.bt 69 [.ow 81 3 (List.map eFc (((([(Fc.mk ⟨#[99, 104, 97, 114, 103, 101]⟩ key 0)] ++ (cat gL (ix s.res.chg (cix s.res.chg key).toNat).lines (ix s.res.chg (cix s.res.chg key).toNat).lines.length)) ++ [(Fc.mk (⟨#[116, 114, 105, 112]⟩) (((ix s.res.trips ((tix s.res key)).toNat)).id) 0)]) ++ (stp s.res (((ix s.res.trips ((tix s.res key)).toNat)))))))]]) (obs' := [.bt 69 [.ow 81 3 (List.map eFc ((((([(Fc.mk ⟨#[99, 104, 97, 114, 103, 101]⟩ key 0)] ++ (cat gL (ix s.res.chg (cix s.res.chg key).toNat).lines (ix s.res.chg (cix s.res.chg key).toNat).lines.length)) ++ [(Fc.mk (⟨#[116, 114, 105, 112]⟩) (((ix s.res.trips ((tix s.res key)).toNat)).id) 0)]) ++ (stp s.res (((ix s.res.trips ((tix s.res key)).toNat))))) ++ [(Fc.mk (⟨#[115, 116, 97, 121]⟩) (((ix s.res.stays ((six s.res key)).toNat)).id) 0)])))]]) (r := .tu []) rfl ⟨_, Tryd.func33, nm33, rfl⟩ rfl (.d rfl (.d _) (.d rfl (.d _) (.d rfl (.d _) .nil))) (.p 0 rfl .nil) rfl (And.intro rfl trivial) rfl rfl rfl (add33 (((([(Fc.mk ⟨#[99, 104, 97, 114, 103, 101]⟩ key 0)] ++ (cat gL (ix s.res.chg (cix s.res.chg key).toNat).lines (ix s.res.chg (cix s.res.chg key).toNat).lines.length)) ++ [(Fc.mk (⟨#[116, 114, 105, 112]⟩) (((ix s.res.trips ((tix s.res key)).toNat)).id) 0)]) ++ (stp s.res (((ix s.res.trips ((tix s.res key)).toNat)))))) (⟨#[115, 116, 97, 121]⟩) (((ix s.res.stays ((six s.res key)).toNat)).id) 0 (by simp only [List.length_append, List.length_cons, List.length_nil]; omega)) rfl) rfl)) ?_
          refine rg_done rfl ?_
          show A _ _ _ _ _ _ _
          refine a_seq ?_
          refine a_rseq ?_
          refine rg_put (d := 84) (v := .pt 101 0) rfl (og rfl (of_eff (s_field_pt rfl Tryd.underlying64 rfl ti46 rfl rfl rfl) rfl)) ?_
          refine rg_put (d := 85) (v := .pt 101 17) rfl (og rfl (of_eff (s_field_pt rfl Tryd.underlying46 rfl ti40 rfl rfl rfl) rfl)) ?_
          refine rg_put (d := 86) (v := .d (.sl 9 (List.map eAc s.cfg.acc))) rfl (og rfl (op_load_pt rfl Tryd.underlying40 rfl rfl rfl rfl rfl)) ?_
          refine rg_put (d := 87) (v := .pt 104 1) rfl (og rfl (of_eff (s_field_pt rfl Tryd.underlying93 rfl ti9 rfl rfl rfl) rfl)) ?_
          refine rg_put (d := 88) (v := .d (.fl (.string ((((ix s.res.chg ((cix s.res.chg key)).toNat))).veh)))) rfl (og rfl (op_load_pt rfl Tryd.underlying9 rfl rfl rfl rfl rfl)) ?_
          refine rg_put (d := 89) (v := .pt 104 4) rfl (og rfl (of_eff (s_field_pt rfl Tryd.underlying93 rfl ti3 rfl rfl rfl) rfl)) ?_
          refine rg_put (d := 90) (v := .d (.fl (.int .i64 ((((ix s.res.chg ((cix s.res.chg key)).toNat))).time)))) rfl (og rfl (op_load_pt rfl Tryd.underlying3 rfl rfl rfl rfl rfl)) ?_
          refine rg_put (d := 91) (v := .tu [.fl (.string ((own s.cfg.acc ((((ix s.res.chg ((cix s.res.chg key)).toNat))).veh) ((((ix s.res.chg ((cix s.res.chg key)).toNat))).time)).1)), .fl (.bool ((own s.cfg.acc ((((ix s.res.chg ((cix s.res.chg key)).toNat))).veh) ((((ix s.res.chg ((cix s.res.chg key)).toNat))).time)).2))]) rfl (og rfl (op_call rfl Tryd.func39 nm39 rfl (.cons rfl (.d _) (.cons rfl (.d _) (.cons rfl (.d _) .nil))) (own39 s.cfg.acc ((((ix s.res.chg ((cix s.res.chg key)).toNat))).veh) ((((ix s.res.chg ((cix s.res.chg key)).toNat))).time) (by omega) hs5) rfl)) ?_
          refine rg_put (d := 83) (v := .tu [.fl (.string ((own s.cfg.acc ((((ix s.res.chg ((cix s.res.chg key)).toNat))).veh) ((((ix s.res.chg ((cix s.res.chg key)).toNat))).time)).1)), .fl (.bool ((own s.cfg.acc ((((ix s.res.chg ((cix s.res.chg key)).toNat))).veh) ((((ix s.res.chg ((cix s.res.chg key)).toNat))).time)).2))]) rfl (og rfl (op_move rfl rfl rfl)) ?_
          refine rg_put (d := 92) (v := .d (.fl (.string ((own s.cfg.acc ((((ix s.res.chg ((cix s.res.chg key)).toNat))).veh) ((((ix s.res.chg ((cix s.res.chg key)).toNat))).time)).1)))) rfl (og rfl (op_extract rfl rfl rfl rfl)) ?_
          refine rg_put (d := 93) (v := .d (.fl (.bool ((own s.cfg.acc ((((ix s.res.chg ((cix s.res.chg key)).toNat))).veh) ((((ix s.res.chg ((cix s.res.chg key)).toNat))).time)).2)))) rfl (og rfl (op_extract rfl rfl rfl rfl)) ?_
          refine rg_put (d := 15) (v := .d (.fl (.string ((own s.cfg.acc ((((ix s.res.chg ((cix s.res.chg key)).toNat))).veh) ((((ix s.res.chg ((cix s.res.chg key)).toNat))).time)).1)))) rfl (og rfl (op_assign rfl rfl rfl)) ?_
          refine rg_put (d := 16) (v := .d (.fl (.bool ((own s.cfg.acc ((((ix s.res.chg ((cix s.res.chg key)).toNat))).veh) ((((ix s.res.chg ((cix s.res.chg key)).toNat))).time)).2)))) rfl (og rfl (op_assign rfl rfl rfl)) ?_
          refine rg_done rfl ?_
          refine a_rseq ?_
          refine rg_put (d := 94) (v := .d (.fl (.bool ((own s.cfg.acc ((((ix s.res.chg ((cix s.res.chg key)).toNat))).veh) ((((ix s.res.chg ((cix s.res.chg key)).toNat))).time)).2)))) rfl (og rfl (op_move rfl rfl rfl)) ?_
          refine rg_done rfl ?_
          refine a_cond rfl (fun h11 => ?_) (fun h11 => ?_)
          · skip
            refine a_region ?_
            refine rg_put (d := 95) (v := .cl 33 [.p 105]) rfl (og rfl (op_move rfl rfl rfl)) ?_
            refine rg_put (d := 96) (v := .d (.fl (.string ((own s.cfg.acc ((((ix s.res.chg ((cix s.res.chg key)).toNat))).veh) ((((ix s.res.chg ((cix s.res.chg key)).toNat))).time)).1)))) rfl (og rfl (op_move rfl rfl rfl)) ?_
            refine rg_upd (d := 97) (v := .tu []) (nw := [(105, .bt 69 [.ow 81 3 (List.map eFc (((((([(Fc.mk ⟨#[99, 104, 97, 114, 103, 101]⟩ key 0)] ++ (cat gL (ix s.res.chg (cix s.res.chg key).toNat).lines (ix s.res.chg (cix s.res.chg key).toNat).lines.length)) ++ [(Fc.mk (⟨#[116, 114, 105, 112]⟩) (((ix s.res.trips ((tix s.res key)).toNat)).id) 0)]) ++ (stp s.res (((ix s.res.trips ((tix s.res key)).toNat))))) ++ [(Fc.mk (⟨#[115, 116, 97, 121]⟩) (((ix s.res.stays ((six s.res key)).toNat)).id) 0)]) ++ [(Fc.mk (⟨#[97, 99, 99, 111, 117, 110, 116]⟩) ((own s.cfg.acc ((((ix s.res.chg ((cix s.res.chg key)).toNat))).veh) ((((ix s.res.chg ((cix s.res.chg key)).toNat))).time)).1) 0)])))])]) rfl (og rfl (of_eff (op_callXV [105] (obs := [.bt 69 [.ow 81 3 (List.map eFc ((((([(Fc.mk ⟨#[99, 104, 97, 114, 103, 101]⟩ key 0)] ++ (cat gL (ix s.res.chg (cix s.res.chg key).toNat).lines (ix s.res.chg (cix s.res.chg key).toNat).lines.length)) ++ [(Fc.mk (⟨#[116, 114, 105, 112]⟩) (((ix s.res.trips ((tix s.res key)).toNat)).id) 0)]) ++ (stp s.res (((ix s.res.trips ((tix s.res key)).toNat))))) ++ [(Fc.mk (⟨#[115, 116, 97, 121]⟩) (((ix s.res.stays ((six s.res key)).toNat)).id) 0)])))]]) (obs' := [.bt 69 [.ow 81 3 (List.map eFc (((((([(Fc.mk ⟨#[99, 104, 97, 114, 103, 101]⟩ key 0)] ++ (cat gL (ix s.res.chg (cix s.res.chg key).toNat).lines (ix s.res.chg (cix s.res.chg key).toNat).lines.length)) ++ [(Fc.mk (⟨#[116, 114, 105, 112]⟩) (((ix s.res.trips ((tix s.res key)).toNat)).id) 0)]) ++ (stp s.res (((ix s.res.trips ((tix s.res key)).toNat))))) ++ [(Fc.mk (⟨#[115, 116, 97, 121]⟩) (((ix s.res.stays ((six s.res key)).toNat)).id) 0)]) ++ [(Fc.mk (⟨#[97, 99, 99, 111, 117, 110, 116]⟩) ((own s.cfg.acc ((((ix s.res.chg ((cix s.res.chg key)).toNat))).veh) ((((ix s.res.chg ((cix s.res.chg key)).toNat))).time)).1) 0)])))]]) (r := .tu []) rfl ⟨_, Tryd.func33, nm33, rfl⟩ rfl (.d rfl (.d _) (.d rfl (.d _) (.d rfl (.d _) .nil))) (.p 0 rfl .nil) rfl (And.intro rfl trivial) rfl rfl rfl (add33 ((((([(Fc.mk ⟨#[99, 104, 97, 114, 103, 101]⟩ key 0)] ++ (cat gL (ix s.res.chg (cix s.res.chg key).toNat).lines (ix s.res.chg (cix s.res.chg key).toNat).lines.length)) ++ [(Fc.mk (⟨#[116, 114, 105, 112]⟩) (((ix s.res.trips ((tix s.res key)).toNat)).id) 0)]) ++ (stp s.res (((ix s.res.trips ((tix s.res key)).toNat))))) ++ [(Fc.mk (⟨#[115, 116, 97, 121]⟩) (((ix s.res.stays ((six s.res key)).toNat)).id) 0)])) (⟨#[97, 99, 99, 111, 117, 110, 116]⟩) ((own s.cfg.acc ((((ix s.res.chg ((cix s.res.chg key)).toNat))).veh) ((((ix s.res.chg ((cix s.res.chg key)).toNat))).time)).1) 0 (by simp only [List.length_append, List.length_cons, List.length_nil]; omega)) rfl) rfl)) ?_
            refine rg_done rfl ?_
            show A _ _ _ _ _ _ _
            refine a_seq ?_
            refine a_rseq ?_
            refine rg_put (d := 102) (v := .pt 101 35) rfl (og rfl (of_eff (s_field_pt rfl Tryd.underlying64 rfl ti61 rfl rfl rfl) rfl)) ?_
            refine rg_put (d := 103) (v := .pt 101 36) rfl (og rfl (of_eff (s_field_pt rfl Tryd.underlying61 rfl ti53 rfl rfl rfl) rfl)) ?_
            refine rg_put (d := 104) (v := .d (.sl 7 (List.map eCg s.books.done))) rfl (og rfl (op_load_pt rfl Tryd.underlying53 rfl rfl rfl rfl rfl)) ?_
            refine rg_put (d := 105) (v := .d (.fl (.string key))) rfl (og rfl (op_load_el rfl Tryd.underlying9 rfl rfl rfl rfl)) ?_
            refine rg_put (d := 106) (v := .d (.fl (.bool (hasK s.books.done key)))) rfl (og rfl (op_call rfl Tryd.func40 nm40 rfl (.cons rfl (.d _) (.cons rfl (.d _) .nil)) (hasK40 s.books.done key (by omega)) rfl)) ?_
            refine rg_done rfl ?_
            refine a_cond rfl (fun h12 => ?_) (fun h12 => ?_)
            · skip
              refine a_region ?_
              refine rg_put (d := 107) (v := .cl 33 [.p 105]) rfl (og rfl (op_move rfl rfl rfl)) ?_
              refine rg_put (d := 108) (v := .d (.fl (.string key))) rfl (og rfl (op_load_el rfl Tryd.underlying9 rfl rfl rfl rfl)) ?_
              refine rg_upd (d := 109) (v := .tu []) (nw := [(105, .bt 69 [.ow 81 3 (List.map eFc ((((((([(Fc.mk ⟨#[99, 104, 97, 114, 103, 101]⟩ key 0)] ++ (cat gL (ix s.res.chg (cix s.res.chg key).toNat).lines (ix s.res.chg (cix s.res.chg key).toNat).lines.length)) ++ [(Fc.mk (⟨#[116, 114, 105, 112]⟩) (((ix s.res.trips ((tix s.res key)).toNat)).id) 0)]) ++ (stp s.res (((ix s.res.trips ((tix s.res key)).toNat))))) ++ [(Fc.mk (⟨#[115, 116, 97, 121]⟩) (((ix s.res.stays ((six s.res key)).toNat)).id) 0)]) ++ [(Fc.mk (⟨#[97, 99, 99, 111, 117, 110, 116]⟩) ((own s.cfg.acc ((((ix s.res.chg ((cix s.res.chg key)).toNat))).veh) ((((ix s.res.chg ((cix s.res.chg key)).toNat))).time)).1) 0)]) ++ [(Fc.mk (⟨#[112, 111, 115, 116, 101, 100]⟩) key 0)])))])]) rfl (og rfl (of_eff (op_callXV [105] (obs := [.bt 69 [.ow 81 3 (List.map eFc (((((([(Fc.mk ⟨#[99, 104, 97, 114, 103, 101]⟩ key 0)] ++ (cat gL (ix s.res.chg (cix s.res.chg key).toNat).lines (ix s.res.chg (cix s.res.chg key).toNat).lines.length)) ++ [(Fc.mk (⟨#[116, 114, 105, 112]⟩) (((ix s.res.trips ((tix s.res key)).toNat)).id) 0)]) ++ (stp s.res (((ix s.res.trips ((tix s.res key)).toNat))))) ++ [(Fc.mk (⟨#[115, 116, 97, 121]⟩) (((ix s.res.stays ((six s.res key)).toNat)).id) 0)]) ++ [(Fc.mk (⟨#[97, 99, 99, 111, 117, 110, 116]⟩) ((own s.cfg.acc ((((ix s.res.chg ((cix s.res.chg key)).toNat))).veh) ((((ix s.res.chg ((cix s.res.chg key)).toNat))).time)).1) 0)])))]]) (obs' := [.bt 69 [.ow 81 3 (List.map eFc ((((((([(Fc.mk ⟨#[99, 104, 97, 114, 103, 101]⟩ key 0)] ++ (cat gL (ix s.res.chg (cix s.res.chg key).toNat).lines (ix s.res.chg (cix s.res.chg key).toNat).lines.length)) ++ [(Fc.mk (⟨#[116, 114, 105, 112]⟩) (((ix s.res.trips ((tix s.res key)).toNat)).id) 0)]) ++ (stp s.res (((ix s.res.trips ((tix s.res key)).toNat))))) ++ [(Fc.mk (⟨#[115, 116, 97, 121]⟩) (((ix s.res.stays ((six s.res key)).toNat)).id) 0)]) ++ [(Fc.mk (⟨#[97, 99, 99, 111, 117, 110, 116]⟩) ((own s.cfg.acc ((((ix s.res.chg ((cix s.res.chg key)).toNat))).veh) ((((ix s.res.chg ((cix s.res.chg key)).toNat))).time)).1) 0)]) ++ [(Fc.mk (⟨#[112, 111, 115, 116, 101, 100]⟩) key 0)])))]]) (r := .tu []) rfl ⟨_, Tryd.func33, nm33, rfl⟩ rfl (.d rfl (.d _) (.d rfl (.d _) (.d rfl (.d _) .nil))) (.p 0 rfl .nil) rfl (And.intro rfl trivial) rfl rfl rfl (add33 (((((([(Fc.mk ⟨#[99, 104, 97, 114, 103, 101]⟩ key 0)] ++ (cat gL (ix s.res.chg (cix s.res.chg key).toNat).lines (ix s.res.chg (cix s.res.chg key).toNat).lines.length)) ++ [(Fc.mk (⟨#[116, 114, 105, 112]⟩) (((ix s.res.trips ((tix s.res key)).toNat)).id) 0)]) ++ (stp s.res (((ix s.res.trips ((tix s.res key)).toNat))))) ++ [(Fc.mk (⟨#[115, 116, 97, 121]⟩) (((ix s.res.stays ((six s.res key)).toNat)).id) 0)]) ++ [(Fc.mk (⟨#[97, 99, 99, 111, 117, 110, 116]⟩) ((own s.cfg.acc ((((ix s.res.chg ((cix s.res.chg key)).toNat))).veh) ((((ix s.res.chg ((cix s.res.chg key)).toNat))).time)).1) 0)])) (⟨#[112, 111, 115, 116, 101, 100]⟩) key 0 (by simp only [List.length_append, List.length_cons, List.length_nil]; omega)) rfl) rfl)) ?_
              refine rg_done rfl ?_
              show A _ _ _ _ _ _ _
              refine a_rseq ?_
              refine rg_nam (d := 110) (v := .ow 109) (m := 109) (nw := [(109, .tr 81 3 (tD eFc ((((((([(Fc.mk ⟨#[99, 104, 97, 114, 103, 101]⟩ key 0)] ++ (cat gL (ix s.res.chg (cix s.res.chg key).toNat).lines (ix s.res.chg (cix s.res.chg key).toNat).lines.length)) ++ [(Fc.mk (⟨#[116, 114, 105, 112]⟩) (((ix s.res.trips ((tix s.res key)).toNat)).id) 0)]) ++ (stp s.res (((ix s.res.trips ((tix s.res key)).toNat))))) ++ [(Fc.mk (⟨#[115, 116, 97, 121]⟩) (((ix s.res.stays ((six s.res key)).toNat)).id) 0)]) ++ [(Fc.mk (⟨#[97, 99, 99, 111, 117, 110, 116]⟩) ((own s.cfg.acc ((((ix s.res.chg ((cix s.res.chg key)).toNat))).veh) ((((ix s.res.chg ((cix s.res.chg key)).toNat))).time)).1) 0)]) ++ [(Fc.mk (⟨#[112, 111, 115, 116, 101, 100]⟩) key 0)])))), (105, .bt 69 [.un])]) rfl (og rfl (of_eff (op_takeBt 109 rfl Tryd.underlying69 rfl rfl rfl rfl rfl rfl) rfl)) rfl ?_
              refine rg_put (d := 4) (v := .ow 109) rfl (og rfl (op_assign rfl rfl rfl)) ?_
              refine rg_put (d := 5) (v := .d (.fl (.int .i64 0))) rfl (og rfl (op_assign rfl rfl rfl)) ?_
              refine rg_done rfl ?_
              refine a_imp (imp_leakT 4 109 rfl rfl) ?_
              refine a_ret ?_
              show ∃ ds, ResL _ _ _ ds ∧ RV.of ds = _
              refine ⟨[.sl 3 (List.map eFc ((((((([(Fc.mk ⟨#[99, 104, 97, 114, 103, 101]⟩ key 0)] ++ (cat gL (ix s.res.chg (cix s.res.chg key).toNat).lines (ix s.res.chg (cix s.res.chg key).toNat).lines.length)) ++ [(Fc.mk (⟨#[116, 114, 105, 112]⟩) (((ix s.res.trips ((tix s.res key)).toNat)).id) 0)]) ++ (stp s.res (((ix s.res.trips ((tix s.res key)).toNat))))) ++ [(Fc.mk (⟨#[115, 116, 97, 121]⟩) (((ix s.res.stays ((six s.res key)).toNat)).id) 0)]) ++ [(Fc.mk (⟨#[97, 99, 99, 111, 117, 110, 116]⟩) ((own s.cfg.acc ((((ix s.res.chg ((cix s.res.chg key)).toNat))).veh) ((((ix s.res.chg ((cix s.res.chg key)).toNat))).time)).1) 0)]) ++ [(Fc.mk (⟨#[112, 111, 115, 116, 101, 100]⟩) key 0)]))), .fl (.int .i64 0)], (.cons (.tmp rfl (.d _)) (.cons (.tmp rfl (.d _)) .nil)), ?_⟩
              have hu : chg s key = ((((((([(Fc.mk ⟨#[99, 104, 97, 114, 103, 101]⟩ key 0)] ++ (cat gL (ix s.res.chg (cix s.res.chg key).toNat).lines (ix s.res.chg (cix s.res.chg key).toNat).lines.length)) ++ [(Fc.mk (⟨#[116, 114, 105, 112]⟩) (((ix s.res.trips ((tix s.res key)).toNat)).id) 0)]) ++ (stp s.res (((ix s.res.trips ((tix s.res key)).toNat))))) ++ [(Fc.mk (⟨#[115, 116, 97, 121]⟩) (((ix s.res.stays ((six s.res key)).toNat)).id) 0)]) ++ [(Fc.mk (⟨#[97, 99, 99, 111, 117, 110, 116]⟩) ((own s.cfg.acc ((((ix s.res.chg ((cix s.res.chg key)).toNat))).veh) ((((ix s.res.chg ((cix s.res.chg key)).toNat))).time)).1) 0)]) ++ [(Fc.mk (⟨#[112, 111, 115, 116, 101, 100]⟩) key 0)]), 0) := by rw [chg_yes h1, tF_yes h7, yF_yes h9, aF_yes h11, pF_yes h12]; try simp only [List.append_assoc, List.cons_append, List.nil_append, List.append_nil]
              rw [hu]; rfl
            · skip
              refine a_skip ?_
              show A _ _ _ _ _ _ _
              refine a_rseq ?_
              refine rg_nam (d := 110) (v := .ow 110) (m := 110) (nw := [(110, .tr 81 3 (tD eFc (((((([(Fc.mk ⟨#[99, 104, 97, 114, 103, 101]⟩ key 0)] ++ (cat gL (ix s.res.chg (cix s.res.chg key).toNat).lines (ix s.res.chg (cix s.res.chg key).toNat).lines.length)) ++ [(Fc.mk (⟨#[116, 114, 105, 112]⟩) (((ix s.res.trips ((tix s.res key)).toNat)).id) 0)]) ++ (stp s.res (((ix s.res.trips ((tix s.res key)).toNat))))) ++ [(Fc.mk (⟨#[115, 116, 97, 121]⟩) (((ix s.res.stays ((six s.res key)).toNat)).id) 0)]) ++ [(Fc.mk (⟨#[97, 99, 99, 111, 117, 110, 116]⟩) ((own s.cfg.acc ((((ix s.res.chg ((cix s.res.chg key)).toNat))).veh) ((((ix s.res.chg ((cix s.res.chg key)).toNat))).time)).1) 0)])))), (105, .bt 69 [.un])]) rfl (og rfl (of_eff (op_takeBt 110 rfl Tryd.underlying69 rfl rfl rfl rfl rfl rfl) rfl)) rfl ?_
              refine rg_put (d := 4) (v := .ow 110) rfl (og rfl (op_assign rfl rfl rfl)) ?_
              refine rg_put (d := 5) (v := .d (.fl (.int .i64 0))) rfl (og rfl (op_assign rfl rfl rfl)) ?_
              refine rg_done rfl ?_
              refine a_imp (imp_leakT 4 110 rfl rfl) ?_
              refine a_ret ?_
              show ∃ ds, ResL _ _ _ ds ∧ RV.of ds = _
              refine ⟨[.sl 3 (List.map eFc (((((([(Fc.mk ⟨#[99, 104, 97, 114, 103, 101]⟩ key 0)] ++ (cat gL (ix s.res.chg (cix s.res.chg key).toNat).lines (ix s.res.chg (cix s.res.chg key).toNat).lines.length)) ++ [(Fc.mk (⟨#[116, 114, 105, 112]⟩) (((ix s.res.trips ((tix s.res key)).toNat)).id) 0)]) ++ (stp s.res (((ix s.res.trips ((tix s.res key)).toNat))))) ++ [(Fc.mk (⟨#[115, 116, 97, 121]⟩) (((ix s.res.stays ((six s.res key)).toNat)).id) 0)]) ++ [(Fc.mk (⟨#[97, 99, 99, 111, 117, 110, 116]⟩) ((own s.cfg.acc ((((ix s.res.chg ((cix s.res.chg key)).toNat))).veh) ((((ix s.res.chg ((cix s.res.chg key)).toNat))).time)).1) 0)]))), .fl (.int .i64 0)], (.cons (.tmp rfl (.d _)) (.cons (.tmp rfl (.d _)) .nil)), ?_⟩
              have hu : chg s key = (((((([(Fc.mk ⟨#[99, 104, 97, 114, 103, 101]⟩ key 0)] ++ (cat gL (ix s.res.chg (cix s.res.chg key).toNat).lines (ix s.res.chg (cix s.res.chg key).toNat).lines.length)) ++ [(Fc.mk (⟨#[116, 114, 105, 112]⟩) (((ix s.res.trips ((tix s.res key)).toNat)).id) 0)]) ++ (stp s.res (((ix s.res.trips ((tix s.res key)).toNat))))) ++ [(Fc.mk (⟨#[115, 116, 97, 121]⟩) (((ix s.res.stays ((six s.res key)).toNat)).id) 0)]) ++ [(Fc.mk (⟨#[97, 99, 99, 111, 117, 110, 116]⟩) ((own s.cfg.acc ((((ix s.res.chg ((cix s.res.chg key)).toNat))).veh) ((((ix s.res.chg ((cix s.res.chg key)).toNat))).time)).1) 0)]), 0) := by rw [chg_yes h1, tF_yes h7, yF_yes h9, aF_yes h11, pF_no h12]; try simp only [List.append_assoc, List.cons_append, List.nil_append, List.append_nil]
              rw [hu]; rfl
          · skip
            refine a_region ?_
            refine rg_put (d := 98) (v := .cl 33 [.p 105]) rfl (og rfl (op_move rfl rfl rfl)) ?_
            refine rg_put (d := 99) (v := .pt 104 1) rfl (og rfl (of_eff (s_field_pt rfl Tryd.underlying93 rfl ti9 rfl rfl rfl) rfl)) ?_
            refine rg_put (d := 100) (v := .d (.fl (.string ((((ix s.res.chg ((cix s.res.chg key)).toNat))).veh)))) rfl (og rfl (op_load_pt rfl Tryd.underlying9 rfl rfl rfl rfl rfl)) ?_
            refine rg_upd (d := 101) (v := .tu []) (nw := [(105, .bt 69 [.ow 81 3 (List.map eFc (((((([(Fc.mk ⟨#[99, 104, 97, 114, 103, 101]⟩ key 0)] ++ (cat gL (ix s.res.chg (cix s.res.chg key).toNat).lines (ix s.res.chg (cix s.res.chg key).toNat).lines.length)) ++ [(Fc.mk (⟨#[116, 114, 105, 112]⟩) (((ix s.res.trips ((tix s.res key)).toNat)).id) 0)]) ++ (stp s.res (((ix s.res.trips ((tix s.res key)).toNat))))) ++ [(Fc.mk (⟨#[115, 116, 97, 121]⟩) (((ix s.res.stays ((six s.res key)).toNat)).id) 0)]) ++ [(Fc.mk (⟨#[118, 101, 104, 105, 99, 108, 101]⟩) ((((ix s.res.chg ((cix s.res.chg key)).toNat))).veh) 17)])))])]) rfl (og rfl (of_eff (op_callXV [105] (obs := [.bt 69 [.ow 81 3 (List.map eFc ((((([(Fc.mk ⟨#[99, 104, 97, 114, 103, 101]⟩ key 0)] ++ (cat gL (ix s.res.chg (cix s.res.chg key).toNat).lines (ix s.res.chg (cix s.res.chg key).toNat).lines.length)) ++ [(Fc.mk (⟨#[116, 114, 105, 112]⟩) (((ix s.res.trips ((tix s.res key)).toNat)).id) 0)]) ++ (stp s.res (((ix s.res.trips ((tix s.res key)).toNat))))) ++ [(Fc.mk (⟨#[115, 116, 97, 121]⟩) (((ix s.res.stays ((six s.res key)).toNat)).id) 0)])))]]) (obs' := [.bt 69 [.ow 81 3 (List.map eFc (((((([(Fc.mk ⟨#[99, 104, 97, 114, 103, 101]⟩ key 0)] ++ (cat gL (ix s.res.chg (cix s.res.chg key).toNat).lines (ix s.res.chg (cix s.res.chg key).toNat).lines.length)) ++ [(Fc.mk (⟨#[116, 114, 105, 112]⟩) (((ix s.res.trips ((tix s.res key)).toNat)).id) 0)]) ++ (stp s.res (((ix s.res.trips ((tix s.res key)).toNat))))) ++ [(Fc.mk (⟨#[115, 116, 97, 121]⟩) (((ix s.res.stays ((six s.res key)).toNat)).id) 0)]) ++ [(Fc.mk (⟨#[118, 101, 104, 105, 99, 108, 101]⟩) ((((ix s.res.chg ((cix s.res.chg key)).toNat))).veh) 17)])))]]) (r := .tu []) rfl ⟨_, Tryd.func33, nm33, rfl⟩ rfl (.d rfl (.d _) (.d rfl (.d _) (.d rfl (.d _) .nil))) (.p 0 rfl .nil) rfl (And.intro rfl trivial) rfl rfl rfl (add33 ((((([(Fc.mk ⟨#[99, 104, 97, 114, 103, 101]⟩ key 0)] ++ (cat gL (ix s.res.chg (cix s.res.chg key).toNat).lines (ix s.res.chg (cix s.res.chg key).toNat).lines.length)) ++ [(Fc.mk (⟨#[116, 114, 105, 112]⟩) (((ix s.res.trips ((tix s.res key)).toNat)).id) 0)]) ++ (stp s.res (((ix s.res.trips ((tix s.res key)).toNat))))) ++ [(Fc.mk (⟨#[115, 116, 97, 121]⟩) (((ix s.res.stays ((six s.res key)).toNat)).id) 0)])) (⟨#[118, 101, 104, 105, 99, 108, 101]⟩) ((((ix s.res.chg ((cix s.res.chg key)).toNat))).veh) 17 (by simp only [List.length_append, List.length_cons, List.length_nil]; omega)) rfl) rfl)) ?_
            refine rg_done rfl ?_
            show A _ _ _ _ _ _ _
            refine a_seq ?_
            refine a_rseq ?_
            refine rg_put (d := 102) (v := .pt 101 35) rfl (og rfl (of_eff (s_field_pt rfl Tryd.underlying64 rfl ti61 rfl rfl rfl) rfl)) ?_
            refine rg_put (d := 103) (v := .pt 101 36) rfl (og rfl (of_eff (s_field_pt rfl Tryd.underlying61 rfl ti53 rfl rfl rfl) rfl)) ?_
            refine rg_put (d := 104) (v := .d (.sl 7 (List.map eCg s.books.done))) rfl (og rfl (op_load_pt rfl Tryd.underlying53 rfl rfl rfl rfl rfl)) ?_
            refine rg_put (d := 105) (v := .d (.fl (.string key))) rfl (og rfl (op_load_el rfl Tryd.underlying9 rfl rfl rfl rfl)) ?_
            refine rg_put (d := 106) (v := .d (.fl (.bool (hasK s.books.done key)))) rfl (og rfl (op_call rfl Tryd.func40 nm40 rfl (.cons rfl (.d _) (.cons rfl (.d _) .nil)) (hasK40 s.books.done key (by omega)) rfl)) ?_
            refine rg_done rfl ?_
            refine a_cond rfl (fun h13 => ?_) (fun h13 => ?_)
            · skip
              refine a_region ?_
              refine rg_put (d := 107) (v := .cl 33 [.p 105]) rfl (og rfl (op_move rfl rfl rfl)) ?_
              refine rg_put (d := 108) (v := .d (.fl (.string key))) rfl (og rfl (op_load_el rfl Tryd.underlying9 rfl rfl rfl rfl)) ?_
              refine rg_upd (d := 109) (v := .tu []) (nw := [(105, .bt 69 [.ow 81 3 (List.map eFc ((((((([(Fc.mk ⟨#[99, 104, 97, 114, 103, 101]⟩ key 0)] ++ (cat gL (ix s.res.chg (cix s.res.chg key).toNat).lines (ix s.res.chg (cix s.res.chg key).toNat).lines.length)) ++ [(Fc.mk (⟨#[116, 114, 105, 112]⟩) (((ix s.res.trips ((tix s.res key)).toNat)).id) 0)]) ++ (stp s.res (((ix s.res.trips ((tix s.res key)).toNat))))) ++ [(Fc.mk (⟨#[115, 116, 97, 121]⟩) (((ix s.res.stays ((six s.res key)).toNat)).id) 0)]) ++ [(Fc.mk (⟨#[118, 101, 104, 105, 99, 108, 101]⟩) ((((ix s.res.chg ((cix s.res.chg key)).toNat))).veh) 17)]) ++ [(Fc.mk (⟨#[112, 111, 115, 116, 101, 100]⟩) key 0)])))])]) rfl (og rfl (of_eff (op_callXV [105] (obs := [.bt 69 [.ow 81 3 (List.map eFc (((((([(Fc.mk ⟨#[99, 104, 97, 114, 103, 101]⟩ key 0)] ++ (cat gL (ix s.res.chg (cix s.res.chg key).toNat).lines (ix s.res.chg (cix s.res.chg key).toNat).lines.length)) ++ [(Fc.mk (⟨#[116, 114, 105, 112]⟩) (((ix s.res.trips ((tix s.res key)).toNat)).id) 0)]) ++ (stp s.res (((ix s.res.trips ((tix s.res key)).toNat))))) ++ [(Fc.mk (⟨#[115, 116, 97, 121]⟩) (((ix s.res.stays ((six s.res key)).toNat)).id) 0)]) ++ [(Fc.mk (⟨#[118, 101, 104, 105, 99, 108, 101]⟩) ((((ix s.res.chg ((cix s.res.chg key)).toNat))).veh) 17)])))]]) (obs' := [.bt 69 [.ow 81 3 (List.map eFc ((((((([(Fc.mk ⟨#[99, 104, 97, 114, 103, 101]⟩ key 0)] ++ (cat gL (ix s.res.chg (cix s.res.chg key).toNat).lines (ix s.res.chg (cix s.res.chg key).toNat).lines.length)) ++ [(Fc.mk (⟨#[116, 114, 105, 112]⟩) (((ix s.res.trips ((tix s.res key)).toNat)).id) 0)]) ++ (stp s.res (((ix s.res.trips ((tix s.res key)).toNat))))) ++ [(Fc.mk (⟨#[115, 116, 97, 121]⟩) (((ix s.res.stays ((six s.res key)).toNat)).id) 0)]) ++ [(Fc.mk (⟨#[118, 101, 104, 105, 99, 108, 101]⟩) ((((ix s.res.chg ((cix s.res.chg key)).toNat))).veh) 17)]) ++ [(Fc.mk (⟨#[112, 111, 115, 116, 101, 100]⟩) key 0)])))]]) (r := .tu []) rfl ⟨_, Tryd.func33, nm33, rfl⟩ rfl (.d rfl (.d _) (.d rfl (.d _) (.d rfl (.d _) .nil))) (.p 0 rfl .nil) rfl (And.intro rfl trivial) rfl rfl rfl (add33 (((((([(Fc.mk ⟨#[99, 104, 97, 114, 103, 101]⟩ key 0)] ++ (cat gL (ix s.res.chg (cix s.res.chg key).toNat).lines (ix s.res.chg (cix s.res.chg key).toNat).lines.length)) ++ [(Fc.mk (⟨#[116, 114, 105, 112]⟩) (((ix s.res.trips ((tix s.res key)).toNat)).id) 0)]) ++ (stp s.res (((ix s.res.trips ((tix s.res key)).toNat))))) ++ [(Fc.mk (⟨#[115, 116, 97, 121]⟩) (((ix s.res.stays ((six s.res key)).toNat)).id) 0)]) ++ [(Fc.mk (⟨#[118, 101, 104, 105, 99, 108, 101]⟩) ((((ix s.res.chg ((cix s.res.chg key)).toNat))).veh) 17)])) (⟨#[112, 111, 115, 116, 101, 100]⟩) key 0 (by simp only [List.length_append, List.length_cons, List.length_nil]; omega)) rfl) rfl)) ?_
              refine rg_done rfl ?_
              show A _ _ _ _ _ _ _
              refine a_rseq ?_
              refine rg_nam (d := 110) (v := .ow 111) (m := 111) (nw := [(111, .tr 81 3 (tD eFc ((((((([(Fc.mk ⟨#[99, 104, 97, 114, 103, 101]⟩ key 0)] ++ (cat gL (ix s.res.chg (cix s.res.chg key).toNat).lines (ix s.res.chg (cix s.res.chg key).toNat).lines.length)) ++ [(Fc.mk (⟨#[116, 114, 105, 112]⟩) (((ix s.res.trips ((tix s.res key)).toNat)).id) 0)]) ++ (stp s.res (((ix s.res.trips ((tix s.res key)).toNat))))) ++ [(Fc.mk (⟨#[115, 116, 97, 121]⟩) (((ix s.res.stays ((six s.res key)).toNat)).id) 0)]) ++ [(Fc.mk (⟨#[118, 101, 104, 105, 99, 108, 101]⟩) ((((ix s.res.chg ((cix s.res.chg key)).toNat))).veh) 17)]) ++ [(Fc.mk (⟨#[112, 111, 115, 116, 101, 100]⟩) key 0)])))), (105, .bt 69 [.un])]) rfl (og rfl (of_eff (op_takeBt 111 rfl Tryd.underlying69 rfl rfl rfl rfl rfl rfl) rfl)) rfl ?_
              refine rg_put (d := 4) (v := .ow 111) rfl (og rfl (op_assign rfl rfl rfl)) ?_
              refine rg_put (d := 5) (v := .d (.fl (.int .i64 0))) rfl (og rfl (op_assign rfl rfl rfl)) ?_
              refine rg_done rfl ?_
              refine a_imp (imp_leakT 4 111 rfl rfl) ?_
              refine a_ret ?_
              show ∃ ds, ResL _ _ _ ds ∧ RV.of ds = _
              refine ⟨[.sl 3 (List.map eFc ((((((([(Fc.mk ⟨#[99, 104, 97, 114, 103, 101]⟩ key 0)] ++ (cat gL (ix s.res.chg (cix s.res.chg key).toNat).lines (ix s.res.chg (cix s.res.chg key).toNat).lines.length)) ++ [(Fc.mk (⟨#[116, 114, 105, 112]⟩) (((ix s.res.trips ((tix s.res key)).toNat)).id) 0)]) ++ (stp s.res (((ix s.res.trips ((tix s.res key)).toNat))))) ++ [(Fc.mk (⟨#[115, 116, 97, 121]⟩) (((ix s.res.stays ((six s.res key)).toNat)).id) 0)]) ++ [(Fc.mk (⟨#[118, 101, 104, 105, 99, 108, 101]⟩) ((((ix s.res.chg ((cix s.res.chg key)).toNat))).veh) 17)]) ++ [(Fc.mk (⟨#[112, 111, 115, 116, 101, 100]⟩) key 0)]))), .fl (.int .i64 0)], (.cons (.tmp rfl (.d _)) (.cons (.tmp rfl (.d _)) .nil)), ?_⟩
              have hu : chg s key = ((((((([(Fc.mk ⟨#[99, 104, 97, 114, 103, 101]⟩ key 0)] ++ (cat gL (ix s.res.chg (cix s.res.chg key).toNat).lines (ix s.res.chg (cix s.res.chg key).toNat).lines.length)) ++ [(Fc.mk (⟨#[116, 114, 105, 112]⟩) (((ix s.res.trips ((tix s.res key)).toNat)).id) 0)]) ++ (stp s.res (((ix s.res.trips ((tix s.res key)).toNat))))) ++ [(Fc.mk (⟨#[115, 116, 97, 121]⟩) (((ix s.res.stays ((six s.res key)).toNat)).id) 0)]) ++ [(Fc.mk (⟨#[118, 101, 104, 105, 99, 108, 101]⟩) ((((ix s.res.chg ((cix s.res.chg key)).toNat))).veh) 17)]) ++ [(Fc.mk (⟨#[112, 111, 115, 116, 101, 100]⟩) key 0)]), 0) := by rw [chg_yes h1, tF_yes h7, yF_yes h9, aF_no h11, pF_yes h13]; try simp only [List.append_assoc, List.cons_append, List.nil_append, List.append_nil]
              rw [hu]; rfl
            · skip
              refine a_skip ?_
              show A _ _ _ _ _ _ _
              refine a_rseq ?_
              refine rg_nam (d := 110) (v := .ow 112) (m := 112) (nw := [(112, .tr 81 3 (tD eFc (((((([(Fc.mk ⟨#[99, 104, 97, 114, 103, 101]⟩ key 0)] ++ (cat gL (ix s.res.chg (cix s.res.chg key).toNat).lines (ix s.res.chg (cix s.res.chg key).toNat).lines.length)) ++ [(Fc.mk (⟨#[116, 114, 105, 112]⟩) (((ix s.res.trips ((tix s.res key)).toNat)).id) 0)]) ++ (stp s.res (((ix s.res.trips ((tix s.res key)).toNat))))) ++ [(Fc.mk (⟨#[115, 116, 97, 121]⟩) (((ix s.res.stays ((six s.res key)).toNat)).id) 0)]) ++ [(Fc.mk (⟨#[118, 101, 104, 105, 99, 108, 101]⟩) ((((ix s.res.chg ((cix s.res.chg key)).toNat))).veh) 17)])))), (105, .bt 69 [.un])]) rfl (og rfl (of_eff (op_takeBt 112 rfl Tryd.underlying69 rfl rfl rfl rfl rfl rfl) rfl)) rfl ?_
              refine rg_put (d := 4) (v := .ow 112) rfl (og rfl (op_assign rfl rfl rfl)) ?_
              refine rg_put (d := 5) (v := .d (.fl (.int .i64 0))) rfl (og rfl (op_assign rfl rfl rfl)) ?_
              refine rg_done rfl ?_
              refine a_imp (imp_leakT 4 112 rfl rfl) ?_
              refine a_ret ?_
              show ∃ ds, ResL _ _ _ ds ∧ RV.of ds = _
              refine ⟨[.sl 3 (List.map eFc (((((([(Fc.mk ⟨#[99, 104, 97, 114, 103, 101]⟩ key 0)] ++ (cat gL (ix s.res.chg (cix s.res.chg key).toNat).lines (ix s.res.chg (cix s.res.chg key).toNat).lines.length)) ++ [(Fc.mk (⟨#[116, 114, 105, 112]⟩) (((ix s.res.trips ((tix s.res key)).toNat)).id) 0)]) ++ (stp s.res (((ix s.res.trips ((tix s.res key)).toNat))))) ++ [(Fc.mk (⟨#[115, 116, 97, 121]⟩) (((ix s.res.stays ((six s.res key)).toNat)).id) 0)]) ++ [(Fc.mk (⟨#[118, 101, 104, 105, 99, 108, 101]⟩) ((((ix s.res.chg ((cix s.res.chg key)).toNat))).veh) 17)]))), .fl (.int .i64 0)], (.cons (.tmp rfl (.d _)) (.cons (.tmp rfl (.d _)) .nil)), ?_⟩
              have hu : chg s key = (((((([(Fc.mk ⟨#[99, 104, 97, 114, 103, 101]⟩ key 0)] ++ (cat gL (ix s.res.chg (cix s.res.chg key).toNat).lines (ix s.res.chg (cix s.res.chg key).toNat).lines.length)) ++ [(Fc.mk (⟨#[116, 114, 105, 112]⟩) (((ix s.res.trips ((tix s.res key)).toNat)).id) 0)]) ++ (stp s.res (((ix s.res.trips ((tix s.res key)).toNat))))) ++ [(Fc.mk (⟨#[115, 116, 97, 121]⟩) (((ix s.res.stays ((six s.res key)).toNat)).id) 0)]) ++ [(Fc.mk (⟨#[118, 101, 104, 105, 99, 108, 101]⟩) ((((ix s.res.chg ((cix s.res.chg key)).toNat))).veh) 17)]), 0) := by rw [chg_yes h1, tF_yes h7, yF_yes h9, aF_no h11, pF_no h13]; try simp only [List.append_assoc, List.cons_append, List.nil_append, List.append_nil]
              rw [hu]; rfl
        · skip
          have h14 := f_dec h9
          refine a_skip ?_
          show A _ _ _ _ _ _ _
          refine a_seq ?_
          refine a_rseq ?_
          refine rg_put (d := 84) (v := .pt 101 0) rfl (og rfl (of_eff (s_field_pt rfl Tryd.underlying64 rfl ti46 rfl rfl rfl) rfl)) ?_
          refine rg_put (d := 85) (v := .pt 101 17) rfl (og rfl (of_eff (s_field_pt rfl Tryd.underlying46 rfl ti40 rfl rfl rfl) rfl)) ?_
          refine rg_put (d := 86) (v := .d (.sl 9 (List.map eAc s.cfg.acc))) rfl (og rfl (op_load_pt rfl Tryd.underlying40 rfl rfl rfl rfl rfl)) ?_
          refine rg_put (d := 87) (v := .pt 104 1) rfl (og rfl (of_eff (s_field_pt rfl Tryd.underlying93 rfl ti9 rfl rfl rfl) rfl)) ?_
          refine rg_put (d := 88) (v := .d (.fl (.string ((((ix s.res.chg ((cix s.res.chg key)).toNat))).veh)))) rfl (og rfl (op_load_pt rfl Tryd.underlying9 rfl rfl rfl rfl rfl)) ?_
          refine rg_put (d := 89) (v := .pt 104 4) rfl (og rfl (of_eff (s_field_pt rfl Tryd.underlying93 rfl ti3 rfl rfl rfl) rfl)) ?_
          refine rg_put (d := 90) (v := .d (.fl (.int .i64 ((((ix s.res.chg ((cix s.res.chg key)).toNat))).time)))) rfl (og rfl (op_load_pt rfl Tryd.underlying3 rfl rfl rfl rfl rfl)) ?_
          refine rg_put (d := 91) (v := .tu [.fl (.string ((own s.cfg.acc ((((ix s.res.chg ((cix s.res.chg key)).toNat))).veh) ((((ix s.res.chg ((cix s.res.chg key)).toNat))).time)).1)), .fl (.bool ((own s.cfg.acc ((((ix s.res.chg ((cix s.res.chg key)).toNat))).veh) ((((ix s.res.chg ((cix s.res.chg key)).toNat))).time)).2))]) rfl (og rfl (op_call rfl Tryd.func39 nm39 rfl (.cons rfl (.d _) (.cons rfl (.d _) (.cons rfl (.d _) .nil))) (own39 s.cfg.acc ((((ix s.res.chg ((cix s.res.chg key)).toNat))).veh) ((((ix s.res.chg ((cix s.res.chg key)).toNat))).time) (by omega) hs5) rfl)) ?_
          refine rg_put (d := 83) (v := .tu [.fl (.string ((own s.cfg.acc ((((ix s.res.chg ((cix s.res.chg key)).toNat))).veh) ((((ix s.res.chg ((cix s.res.chg key)).toNat))).time)).1)), .fl (.bool ((own s.cfg.acc ((((ix s.res.chg ((cix s.res.chg key)).toNat))).veh) ((((ix s.res.chg ((cix s.res.chg key)).toNat))).time)).2))]) rfl (og rfl (op_move rfl rfl rfl)) ?_
          refine rg_put (d := 92) (v := .d (.fl (.string ((own s.cfg.acc ((((ix s.res.chg ((cix s.res.chg key)).toNat))).veh) ((((ix s.res.chg ((cix s.res.chg key)).toNat))).time)).1)))) rfl (og rfl (op_extract rfl rfl rfl rfl)) ?_
          refine rg_put (d := 93) (v := .d (.fl (.bool ((own s.cfg.acc ((((ix s.res.chg ((cix s.res.chg key)).toNat))).veh) ((((ix s.res.chg ((cix s.res.chg key)).toNat))).time)).2)))) rfl (og rfl (op_extract rfl rfl rfl rfl)) ?_
          refine rg_put (d := 15) (v := .d (.fl (.string ((own s.cfg.acc ((((ix s.res.chg ((cix s.res.chg key)).toNat))).veh) ((((ix s.res.chg ((cix s.res.chg key)).toNat))).time)).1)))) rfl (og rfl (op_assign rfl rfl rfl)) ?_
          refine rg_put (d := 16) (v := .d (.fl (.bool ((own s.cfg.acc ((((ix s.res.chg ((cix s.res.chg key)).toNat))).veh) ((((ix s.res.chg ((cix s.res.chg key)).toNat))).time)).2)))) rfl (og rfl (op_assign rfl rfl rfl)) ?_
          refine rg_done rfl ?_
          refine a_rseq ?_
          refine rg_put (d := 94) (v := .d (.fl (.bool ((own s.cfg.acc ((((ix s.res.chg ((cix s.res.chg key)).toNat))).veh) ((((ix s.res.chg ((cix s.res.chg key)).toNat))).time)).2)))) rfl (og rfl (op_move rfl rfl rfl)) ?_
          refine rg_done rfl ?_
          refine a_cond rfl (fun h15 => ?_) (fun h15 => ?_)
          · skip
            refine a_region ?_
            refine rg_put (d := 95) (v := .cl 33 [.p 105]) rfl (og rfl (op_move rfl rfl rfl)) ?_
            refine rg_put (d := 96) (v := .d (.fl (.string ((own s.cfg.acc ((((ix s.res.chg ((cix s.res.chg key)).toNat))).veh) ((((ix s.res.chg ((cix s.res.chg key)).toNat))).time)).1)))) rfl (og rfl (op_move rfl rfl rfl)) ?_
            refine rg_upd (d := 97) (v := .tu []) (nw := [(105, .bt 69 [.ow 81 3 (List.map eFc ((((([(Fc.mk ⟨#[99, 104, 97, 114, 103, 101]⟩ key 0)] ++ (cat gL (ix s.res.chg (cix s.res.chg key).toNat).lines (ix s.res.chg (cix s.res.chg key).toNat).lines.length)) ++ [(Fc.mk (⟨#[116, 114, 105, 112]⟩) (((ix s.res.trips ((tix s.res key)).toNat)).id) 0)]) ++ (stp s.res (((ix s.res.trips ((tix s.res key)).toNat))))) ++ [(Fc.mk (⟨#[97, 99, 99, 111, 117, 110, 116]⟩) ((own s.cfg.acc ((((ix s.res.chg ((cix s.res.chg key)).toNat))).veh) ((((ix s.res.chg ((cix s.res.chg key)).toNat))).time)).1) 0)])))])]) rfl (og rfl (of_eff (op_callXV [105] (obs := [.bt 69 [.ow 81 3 (List.map eFc (((([(Fc.mk ⟨#[99, 104, 97, 114, 103, 101]⟩ key 0)] ++ (cat gL (ix s.res.chg (cix s.res.chg key).toNat).lines (ix s.res.chg (cix s.res.chg key).toNat).lines.length)) ++ [(Fc.mk (⟨#[116, 114, 105, 112]⟩) (((ix s.res.trips ((tix s.res key)).toNat)).id) 0)]) ++ (stp s.res (((ix s.res.trips ((tix s.res key)).toNat)))))))]]) (obs' := [.bt 69 [.ow 81 3 (List.map eFc ((((([(Fc.mk ⟨#[99, 104, 97, 114, 103, 101]⟩ key 0)] ++ (cat gL (ix s.res.chg (cix s.res.chg key).toNat).lines (ix s.res.chg (cix s.res.chg key).toNat).lines.length)) ++ [(Fc.mk (⟨#[116, 114, 105, 112]⟩) (((ix s.res.trips ((tix s.res key)).toNat)).id) 0)]) ++ (stp s.res (((ix s.res.trips ((tix s.res key)).toNat))))) ++ [(Fc.mk (⟨#[97, 99, 99, 111, 117, 110, 116]⟩) ((own s.cfg.acc ((((ix s.res.chg ((cix s.res.chg key)).toNat))).veh) ((((ix s.res.chg ((cix s.res.chg key)).toNat))).time)).1) 0)])))]]) (r := .tu []) rfl ⟨_, Tryd.func33, nm33, rfl⟩ rfl (.d rfl (.d _) (.d rfl (.d _) (.d rfl (.d _) .nil))) (.p 0 rfl .nil) rfl (And.intro rfl trivial) rfl rfl rfl (add33 (((([(Fc.mk ⟨#[99, 104, 97, 114, 103, 101]⟩ key 0)] ++ (cat gL (ix s.res.chg (cix s.res.chg key).toNat).lines (ix s.res.chg (cix s.res.chg key).toNat).lines.length)) ++ [(Fc.mk (⟨#[116, 114, 105, 112]⟩) (((ix s.res.trips ((tix s.res key)).toNat)).id) 0)]) ++ (stp s.res (((ix s.res.trips ((tix s.res key)).toNat)))))) (⟨#[97, 99, 99, 111, 117, 110, 116]⟩) ((own s.cfg.acc ((((ix s.res.chg ((cix s.res.chg key)).toNat))).veh) ((((ix s.res.chg ((cix s.res.chg key)).toNat))).time)).1) 0 (by simp only [List.length_append, List.length_cons, List.length_nil]; omega)) rfl) rfl)) ?_
            refine rg_done rfl ?_
            show A _ _ _ _ _ _ _
            refine a_seq ?_
            refine a_rseq ?_
            refine rg_put (d := 102) (v := .pt 101 35) rfl (og rfl (of_eff (s_field_pt rfl Tryd.underlying64 rfl ti61 rfl rfl rfl) rfl)) ?_
            refine rg_put (d := 103) (v := .pt 101 36) rfl (og rfl (of_eff (s_field_pt rfl Tryd.underlying61 rfl ti53 rfl rfl rfl) rfl)) ?_
            refine rg_put (d := 104) (v := .d (.sl 7 (List.map eCg s.books.done))) rfl (og rfl (op_load_pt rfl Tryd.underlying53 rfl rfl rfl rfl rfl)) ?_
            refine rg_put (d := 105) (v := .d (.fl (.string key))) rfl (og rfl (op_load_el rfl Tryd.underlying9 rfl rfl rfl rfl)) ?_
            refine rg_put (d := 106) (v := .d (.fl (.bool (hasK s.books.done key)))) rfl (og rfl (op_call rfl Tryd.func40 nm40 rfl (.cons rfl (.d _) (.cons rfl (.d _) .nil)) (hasK40 s.books.done key (by omega)) rfl)) ?_
            refine rg_done rfl ?_
            refine a_cond rfl (fun h16 => ?_) (fun h16 => ?_)
            · skip
              refine a_region ?_
              refine rg_put (d := 107) (v := .cl 33 [.p 105]) rfl (og rfl (op_move rfl rfl rfl)) ?_
              refine rg_put (d := 108) (v := .d (.fl (.string key))) rfl (og rfl (op_load_el rfl Tryd.underlying9 rfl rfl rfl rfl)) ?_
              refine rg_upd (d := 109) (v := .tu []) (nw := [(105, .bt 69 [.ow 81 3 (List.map eFc (((((([(Fc.mk ⟨#[99, 104, 97, 114, 103, 101]⟩ key 0)] ++ (cat gL (ix s.res.chg (cix s.res.chg key).toNat).lines (ix s.res.chg (cix s.res.chg key).toNat).lines.length)) ++ [(Fc.mk (⟨#[116, 114, 105, 112]⟩) (((ix s.res.trips ((tix s.res key)).toNat)).id) 0)]) ++ (stp s.res (((ix s.res.trips ((tix s.res key)).toNat))))) ++ [(Fc.mk (⟨#[97, 99, 99, 111, 117, 110, 116]⟩) ((own s.cfg.acc ((((ix s.res.chg ((cix s.res.chg key)).toNat))).veh) ((((ix s.res.chg ((cix s.res.chg key)).toNat))).time)).1) 0)]) ++ [(Fc.mk (⟨#[112, 111, 115, 116, 101, 100]⟩) key 0)])))])]) rfl (og rfl (of_eff (op_callXV [105] (obs := [.bt 69 [.ow 81 3 (List.map eFc ((((([(Fc.mk ⟨#[99, 104, 97, 114, 103, 101]⟩ key 0)] ++ (cat gL (ix s.res.chg (cix s.res.chg key).toNat).lines (ix s.res.chg (cix s.res.chg key).toNat).lines.length)) ++ [(Fc.mk (⟨#[116, 114, 105, 112]⟩) (((ix s.res.trips ((tix s.res key)).toNat)).id) 0)]) ++ (stp s.res (((ix s.res.trips ((tix s.res key)).toNat))))) ++ [(Fc.mk (⟨#[97, 99, 99, 111, 117, 110, 116]⟩) ((own s.cfg.acc ((((ix s.res.chg ((cix s.res.chg key)).toNat))).veh) ((((ix s.res.chg ((cix s.res.chg key)).toNat))).time)).1) 0)])))]]) (obs' := [.bt 69 [.ow 81 3 (List.map eFc (((((([(Fc.mk ⟨#[99, 104, 97, 114, 103, 101]⟩ key 0)] ++ (cat gL (ix s.res.chg (cix s.res.chg key).toNat).lines (ix s.res.chg (cix s.res.chg key).toNat).lines.length)) ++ [(Fc.mk (⟨#[116, 114, 105, 112]⟩) (((ix s.res.trips ((tix s.res key)).toNat)).id) 0)]) ++ (stp s.res (((ix s.res.trips ((tix s.res key)).toNat))))) ++ [(Fc.mk (⟨#[97, 99, 99, 111, 117, 110, 116]⟩) ((own s.cfg.acc ((((ix s.res.chg ((cix s.res.chg key)).toNat))).veh) ((((ix s.res.chg ((cix s.res.chg key)).toNat))).time)).1) 0)]) ++ [(Fc.mk (⟨#[112, 111, 115, 116, 101, 100]⟩) key 0)])))]]) (r := .tu []) rfl ⟨_, Tryd.func33, nm33, rfl⟩ rfl (.d rfl (.d _) (.d rfl (.d _) (.d rfl (.d _) .nil))) (.p 0 rfl .nil) rfl (And.intro rfl trivial) rfl rfl rfl (add33 ((((([(Fc.mk ⟨#[99, 104, 97, 114, 103, 101]⟩ key 0)] ++ (cat gL (ix s.res.chg (cix s.res.chg key).toNat).lines (ix s.res.chg (cix s.res.chg key).toNat).lines.length)) ++ [(Fc.mk (⟨#[116, 114, 105, 112]⟩) (((ix s.res.trips ((tix s.res key)).toNat)).id) 0)]) ++ (stp s.res (((ix s.res.trips ((tix s.res key)).toNat))))) ++ [(Fc.mk (⟨#[97, 99, 99, 111, 117, 110, 116]⟩) ((own s.cfg.acc ((((ix s.res.chg ((cix s.res.chg key)).toNat))).veh) ((((ix s.res.chg ((cix s.res.chg key)).toNat))).time)).1) 0)])) (⟨#[112, 111, 115, 116, 101, 100]⟩) key 0 (by simp only [List.length_append, List.length_cons, List.length_nil]; omega)) rfl) rfl)) ?_
              refine rg_done rfl ?_
              show A _ _ _ _ _ _ _
              refine a_rseq ?_
              refine rg_nam (d := 110) (v := .ow 113) (m := 113) (nw := [(113, .tr 81 3 (tD eFc (((((([(Fc.mk ⟨#[99, 104, 97, 114, 103, 101]⟩ key 0)] ++ (cat gL (ix s.res.chg (cix s.res.chg key).toNat).lines (ix s.res.chg (cix s.res.chg key).toNat).lines.length)) ++ [(Fc.mk (⟨#[116, 114, 105, 112]⟩) (((ix s.res.trips ((tix s.res key)).toNat)).id) 0)]) ++ (stp s.res (((ix s.res.trips ((tix s.res key)).toNat))))) ++ [(Fc.mk (⟨#[97, 99, 99, 111, 117, 110, 116]⟩) ((own s.cfg.acc ((((ix s.res.chg ((cix s.res.chg key)).toNat))).veh) ((((ix s.res.chg ((cix s.res.chg key)).toNat))).time)).1) 0)]) ++ [(Fc.mk (⟨#[112, 111, 115, 116, 101, 100]⟩) key 0)])))), (105, .bt 69 [.un])]) rfl (og rfl (of_eff (op_takeBt 113 rfl Tryd.underlying69 rfl rfl rfl rfl rfl rfl) rfl)) rfl ?_
              refine rg_put (d := 4) (v := .ow 113) rfl (og rfl (op_assign rfl rfl rfl)) ?_
              refine rg_put (d := 5) (v := .d (.fl (.int .i64 0))) rfl (og rfl (op_assign rfl rfl rfl)) ?_
              refine rg_done rfl ?_
              refine a_imp (imp_leakT 4 113 rfl rfl) ?_
              refine a_ret ?_
              show ∃ ds, ResL _ _ _ ds ∧ RV.of ds = _
              refine ⟨[.sl 3 (List.map eFc (((((([(Fc.mk ⟨#[99, 104, 97, 114, 103, 101]⟩ key 0)] ++ (cat gL (ix s.res.chg (cix s.res.chg key).toNat).lines (ix s.res.chg (cix s.res.chg key).toNat).lines.length)) ++ [(Fc.mk (⟨#[116, 114, 105, 112]⟩) (((ix s.res.trips ((tix s.res key)).toNat)).id) 0)]) ++ (stp s.res (((ix s.res.trips ((tix s.res key)).toNat))))) ++ [(Fc.mk (⟨#[97, 99, 99, 111, 117, 110, 116]⟩) ((own s.cfg.acc ((((ix s.res.chg ((cix s.res.chg key)).toNat))).veh) ((((ix s.res.chg ((cix s.res.chg key)).toNat))).time)).1) 0)]) ++ [(Fc.mk (⟨#[112, 111, 115, 116, 101, 100]⟩) key 0)]))), .fl (.int .i64 0)], (.cons (.tmp rfl (.d _)) (.cons (.tmp rfl (.d _)) .nil)), ?_⟩
              have hu : chg s key = (((((([(Fc.mk ⟨#[99, 104, 97, 114, 103, 101]⟩ key 0)] ++ (cat gL (ix s.res.chg (cix s.res.chg key).toNat).lines (ix s.res.chg (cix s.res.chg key).toNat).lines.length)) ++ [(Fc.mk (⟨#[116, 114, 105, 112]⟩) (((ix s.res.trips ((tix s.res key)).toNat)).id) 0)]) ++ (stp s.res (((ix s.res.trips ((tix s.res key)).toNat))))) ++ [(Fc.mk (⟨#[97, 99, 99, 111, 117, 110, 116]⟩) ((own s.cfg.acc ((((ix s.res.chg ((cix s.res.chg key)).toNat))).veh) ((((ix s.res.chg ((cix s.res.chg key)).toNat))).time)).1) 0)]) ++ [(Fc.mk (⟨#[112, 111, 115, 116, 101, 100]⟩) key 0)]), 0) := by rw [chg_yes h1, tF_yes h7, yF_no h9, aF_yes h15, pF_yes h16]; try simp only [List.append_assoc, List.cons_append, List.nil_append, List.append_nil]
              rw [hu]; rfl
            · skip
              refine a_skip ?_
              show A _ _ _ _ _ _ _
              refine a_rseq ?_
              refine rg_nam (d := 110) (v := .ow 114) (m := 114) (nw := [(114, .tr 81 3 (tD eFc ((((([(Fc.mk ⟨#[99, 104, 97, 114, 103, 101]⟩ key 0)] ++ (cat gL (ix s.res.chg (cix s.res.chg key).toNat).lines (ix s.res.chg (cix s.res.chg key).toNat).lines.length)) ++ [(Fc.mk (⟨#[116, 114, 105, 112]⟩) (((ix s.res.trips ((tix s.res key)).toNat)).id) 0)]) ++ (stp s.res (((ix s.res.trips ((tix s.res key)).toNat))))) ++ [(Fc.mk (⟨#[97, 99, 99, 111, 117, 110, 116]⟩) ((own s.cfg.acc ((((ix s.res.chg ((cix s.res.chg key)).toNat))).veh) ((((ix s.res.chg ((cix s.res.chg key)).toNat))).time)).1) 0)])))), (105, .bt 69 [.un])]) rfl (og rfl (of_eff (op_takeBt 114 rfl Tryd.underlying69 rfl rfl rfl rfl rfl rfl) rfl)) rfl ?_
              refine rg_put (d := 4) (v := .ow 114) rfl (og rfl (op_assign rfl rfl rfl)) ?_
              refine rg_put (d := 5) (v := .d (.fl (.int .i64 0))) rfl (og rfl (op_assign rfl rfl rfl)) ?_
              refine rg_done rfl ?_
              refine a_imp (imp_leakT 4 114 rfl rfl) ?_
              refine a_ret ?_
              show ∃ ds, ResL _ _ _ ds ∧ RV.of ds = _
              refine ⟨[.sl 3 (List.map eFc ((((([(Fc.mk ⟨#[99, 104, 97, 114, 103, 101]⟩ key 0)] ++ (cat gL (ix s.res.chg (cix s.res.chg key).toNat).lines (ix s.res.chg (cix s.res.chg key).toNat).lines.length)) ++ [(Fc.mk (⟨#[116, 114, 105, 112]⟩) (((ix s.res.trips ((tix s.res key)).toNat)).id) 0)]) ++ (stp s.res (((ix s.res.trips ((tix s.res key)).toNat))))) ++ [(Fc.mk (⟨#[97, 99, 99, 111, 117, 110, 116]⟩) ((own s.cfg.acc ((((ix s.res.chg ((cix s.res.chg key)).toNat))).veh) ((((ix s.res.chg ((cix s.res.chg key)).toNat))).time)).1) 0)]))), .fl (.int .i64 0)], (.cons (.tmp rfl (.d _)) (.cons (.tmp rfl (.d _)) .nil)), ?_⟩
              have hu : chg s key = ((((([(Fc.mk ⟨#[99, 104, 97, 114, 103, 101]⟩ key 0)] ++ (cat gL (ix s.res.chg (cix s.res.chg key).toNat).lines (ix s.res.chg (cix s.res.chg key).toNat).lines.length)) ++ [(Fc.mk (⟨#[116, 114, 105, 112]⟩) (((ix s.res.trips ((tix s.res key)).toNat)).id) 0)]) ++ (stp s.res (((ix s.res.trips ((tix s.res key)).toNat))))) ++ [(Fc.mk (⟨#[97, 99, 99, 111, 117, 110, 116]⟩) ((own s.cfg.acc ((((ix s.res.chg ((cix s.res.chg key)).toNat))).veh) ((((ix s.res.chg ((cix s.res.chg key)).toNat))).time)).1) 0)]), 0) := by rw [chg_yes h1, tF_yes h7, yF_no h9, aF_yes h15, pF_no h16]; try simp only [List.append_assoc, List.cons_append, List.nil_append, List.append_nil]
              rw [hu]; rfl
          · skip
            refine a_region ?_
            refine rg_put (d := 98) (v := .cl 33 [.p 105]) rfl (og rfl (op_move rfl rfl rfl)) ?_
            refine rg_put (d := 99) (v := .pt 104 1) rfl (og rfl (of_eff (s_field_pt rfl Tryd.underlying93 rfl ti9 rfl rfl rfl) rfl)) ?_
            refine rg_put (d := 100) (v := .d (.fl (.string ((((ix s.res.chg ((cix s.res.chg key)).toNat))).veh)))) rfl (og rfl (op_load_pt rfl Tryd.underlying9 rfl rfl rfl rfl rfl)) ?_
            refine rg_upd (d := 101) (v := .tu []) (nw := [(105, .bt 69 [.ow 81 3 (List.map eFc ((((([(Fc.mk ⟨#[99, 104, 97, 114, 103, 101]⟩ key 0)] ++ (cat gL (ix s.res.chg (cix s.res.chg key).toNat).lines (ix s.res.chg (cix s.res.chg key).toNat).lines.length)) ++ [(Fc.mk (⟨#[116, 114, 105, 112]⟩) (((ix s.res.trips ((tix s.res key)).toNat)).id) 0)]) ++ (stp s.res (((ix s.res.trips ((tix s.res key)).toNat))))) ++ [(Fc.mk (⟨#[118, 101, 104, 105, 99, 108, 101]⟩) ((((ix s.res.chg ((cix s.res.chg key)).toNat))).veh) 17)])))])]) rfl (og rfl (of_eff (op_callXV [105] (obs := [.bt 69 [.ow 81 3 (List.map eFc (((([(Fc.mk ⟨#[99, 104, 97, 114, 103, 101]⟩ key 0)] ++ (cat gL (ix s.res.chg (cix s.res.chg key).toNat).lines (ix s.res.chg (cix s.res.chg key).toNat).lines.length)) ++ [(Fc.mk (⟨#[116, 114, 105, 112]⟩) (((ix s.res.trips ((tix s.res key)).toNat)).id) 0)]) ++ (stp s.res (((ix s.res.trips ((tix s.res key)).toNat)))))))]]) (obs' := [.bt 69 [.ow 81 3 (List.map eFc ((((([(Fc.mk ⟨#[99, 104, 97, 114, 103, 101]⟩ key 0)] ++ (cat gL (ix s.res.chg (cix s.res.chg key).toNat).lines (ix s.res.chg (cix s.res.chg key).toNat).lines.length)) ++ [(Fc.mk (⟨#[116, 114, 105, 112]⟩) (((ix s.res.trips ((tix s.res key)).toNat)).id) 0)]) ++ (stp s.res (((ix s.res.trips ((tix s.res key)).toNat))))) ++ [(Fc.mk (⟨#[118, 101, 104, 105, 99, 108, 101]⟩) ((((ix s.res.chg ((cix s.res.chg key)).toNat))).veh) 17)])))]]) (r := .tu []) rfl ⟨_, Tryd.func33, nm33, rfl⟩ rfl (.d rfl (.d _) (.d rfl (.d _) (.d rfl (.d _) .nil))) (.p 0 rfl .nil) rfl (And.intro rfl trivial) rfl rfl rfl (add33 (((([(Fc.mk ⟨#[99, 104, 97, 114, 103, 101]⟩ key 0)] ++ (cat gL (ix s.res.chg (cix s.res.chg key).toNat).lines (ix s.res.chg (cix s.res.chg key).toNat).lines.length)) ++ [(Fc.mk (⟨#[116, 114, 105, 112]⟩) (((ix s.res.trips ((tix s.res key)).toNat)).id) 0)]) ++ (stp s.res (((ix s.res.trips ((tix s.res key)).toNat)))))) (⟨#[118, 101, 104, 105, 99, 108, 101]⟩) ((((ix s.res.chg ((cix s.res.chg key)).toNat))).veh) 17 (by simp only [List.length_append, List.length_cons, List.length_nil]; omega)) rfl) rfl)) ?_
            refine rg_done rfl ?_
            show A _ _ _ _ _ _ _
            refine a_seq ?_
            refine a_rseq ?_
            refine rg_put (d := 102) (v := .pt 101 35) rfl (og rfl (of_eff (s_field_pt rfl Tryd.underlying64 rfl ti61 rfl rfl rfl) rfl)) ?_
            refine rg_put (d := 103) (v := .pt 101 36) rfl (og rfl (of_eff (s_field_pt rfl Tryd.underlying61 rfl ti53 rfl rfl rfl) rfl)) ?_
            refine rg_put (d := 104) (v := .d (.sl 7 (List.map eCg s.books.done))) rfl (og rfl (op_load_pt rfl Tryd.underlying53 rfl rfl rfl rfl rfl)) ?_
            refine rg_put (d := 105) (v := .d (.fl (.string key))) rfl (og rfl (op_load_el rfl Tryd.underlying9 rfl rfl rfl rfl)) ?_
            refine rg_put (d := 106) (v := .d (.fl (.bool (hasK s.books.done key)))) rfl (og rfl (op_call rfl Tryd.func40 nm40 rfl (.cons rfl (.d _) (.cons rfl (.d _) .nil)) (hasK40 s.books.done key (by omega)) rfl)) ?_
            refine rg_done rfl ?_
            refine a_cond rfl (fun h17 => ?_) (fun h17 => ?_)
            · skip
              refine a_region ?_
              refine rg_put (d := 107) (v := .cl 33 [.p 105]) rfl (og rfl (op_move rfl rfl rfl)) ?_
              refine rg_put (d := 108) (v := .d (.fl (.string key))) rfl (og rfl (op_load_el rfl Tryd.underlying9 rfl rfl rfl rfl)) ?_
              refine rg_upd (d := 109) (v := .tu []) (nw := [(105, .bt 69 [.ow 81 3 (List.map eFc (((((([(Fc.mk ⟨#[99, 104, 97, 114, 103, 101]⟩ key 0)] ++ (cat gL (ix s.res.chg (cix s.res.chg key).toNat).lines (ix s.res.chg (cix s.res.chg key).toNat).lines.length)) ++ [(Fc.mk (⟨#[116, 114, 105, 112]⟩) (((ix s.res.trips ((tix s.res key)).toNat)).id) 0)]) ++ (stp s.res (((ix s.res.trips ((tix s.res key)).toNat))))) ++ [(Fc.mk (⟨#[118, 101, 104, 105, 99, 108, 101]⟩) ((((ix s.res.chg ((cix s.res.chg key)).toNat))).veh) 17)]) ++ [(Fc.mk (⟨#[112, 111, 115, 116, 101, 100]⟩) key 0)])))])]) rfl (og rfl (of_eff (op_callXV [105] (obs := [.bt 69 [.ow 81 3 (List.map eFc ((((([(Fc.mk ⟨#[99, 104, 97, 114, 103, 101]⟩ key 0)] ++ (cat gL (ix s.res.chg (cix s.res.chg key).toNat).lines (ix s.res.chg (cix s.res.chg key).toNat).lines.length)) ++ [(Fc.mk (⟨#[116, 114, 105, 112]⟩) (((ix s.res.trips ((tix s.res key)).toNat)).id) 0)]) ++ (stp s.res (((ix s.res.trips ((tix s.res key)).toNat))))) ++ [(Fc.mk (⟨#[118, 101, 104, 105, 99, 108, 101]⟩) ((((ix s.res.chg ((cix s.res.chg key)).toNat))).veh) 17)])))]]) (obs' := [.bt 69 [.ow 81 3 (List.map eFc (((((([(Fc.mk ⟨#[99, 104, 97, 114, 103, 101]⟩ key 0)] ++ (cat gL (ix s.res.chg (cix s.res.chg key).toNat).lines (ix s.res.chg (cix s.res.chg key).toNat).lines.length)) ++ [(Fc.mk (⟨#[116, 114, 105, 112]⟩) (((ix s.res.trips ((tix s.res key)).toNat)).id) 0)]) ++ (stp s.res (((ix s.res.trips ((tix s.res key)).toNat))))) ++ [(Fc.mk (⟨#[118, 101, 104, 105, 99, 108, 101]⟩) ((((ix s.res.chg ((cix s.res.chg key)).toNat))).veh) 17)]) ++ [(Fc.mk (⟨#[112, 111, 115, 116, 101, 100]⟩) key 0)])))]]) (r := .tu []) rfl ⟨_, Tryd.func33, nm33, rfl⟩ rfl (.d rfl (.d _) (.d rfl (.d _) (.d rfl (.d _) .nil))) (.p 0 rfl .nil) rfl (And.intro rfl trivial) rfl rfl rfl (add33 ((((([(Fc.mk ⟨#[99, 104, 97, 114, 103, 101]⟩ key 0)] ++ (cat gL (ix s.res.chg (cix s.res.chg key).toNat).lines (ix s.res.chg (cix s.res.chg key).toNat).lines.length)) ++ [(Fc.mk (⟨#[116, 114, 105, 112]⟩) (((ix s.res.trips ((tix s.res key)).toNat)).id) 0)]) ++ (stp s.res (((ix s.res.trips ((tix s.res key)).toNat))))) ++ [(Fc.mk (⟨#[118, 101, 104, 105, 99, 108, 101]⟩) ((((ix s.res.chg ((cix s.res.chg key)).toNat))).veh) 17)])) (⟨#[112, 111, 115, 116, 101, 100]⟩) key 0 (by simp only [List.length_append, List.length_cons, List.length_nil]; omega)) rfl) rfl)) ?_
              refine rg_done rfl ?_
              show A _ _ _ _ _ _ _
              refine a_rseq ?_
              refine rg_nam (d := 110) (v := .ow 115) (m := 115) (nw := [(115, .tr 81 3 (tD eFc (((((([(Fc.mk ⟨#[99, 104, 97, 114, 103, 101]⟩ key 0)] ++ (cat gL (ix s.res.chg (cix s.res.chg key).toNat).lines (ix s.res.chg (cix s.res.chg key).toNat).lines.length)) ++ [(Fc.mk (⟨#[116, 114, 105, 112]⟩) (((ix s.res.trips ((tix s.res key)).toNat)).id) 0)]) ++ (stp s.res (((ix s.res.trips ((tix s.res key)).toNat))))) ++ [(Fc.mk (⟨#[118, 101, 104, 105, 99, 108, 101]⟩) ((((ix s.res.chg ((cix s.res.chg key)).toNat))).veh) 17)]) ++ [(Fc.mk (⟨#[112, 111, 115, 116, 101, 100]⟩) key 0)])))), (105, .bt 69 [.un])]) rfl (og rfl (of_eff (op_takeBt 115 rfl Tryd.underlying69 rfl rfl rfl rfl rfl rfl) rfl)) rfl ?_
              refine rg_put (d := 4) (v := .ow 115) rfl (og rfl (op_assign rfl rfl rfl)) ?_
              refine rg_put (d := 5) (v := .d (.fl (.int .i64 0))) rfl (og rfl (op_assign rfl rfl rfl)) ?_
              refine rg_done rfl ?_
              refine a_imp (imp_leakT 4 115 rfl rfl) ?_
              refine a_ret ?_
              show ∃ ds, ResL _ _ _ ds ∧ RV.of ds = _
              refine ⟨[.sl 3 (List.map eFc (((((([(Fc.mk ⟨#[99, 104, 97, 114, 103, 101]⟩ key 0)] ++ (cat gL (ix s.res.chg (cix s.res.chg key).toNat).lines (ix s.res.chg (cix s.res.chg key).toNat).lines.length)) ++ [(Fc.mk (⟨#[116, 114, 105, 112]⟩) (((ix s.res.trips ((tix s.res key)).toNat)).id) 0)]) ++ (stp s.res (((ix s.res.trips ((tix s.res key)).toNat))))) ++ [(Fc.mk (⟨#[118, 101, 104, 105, 99, 108, 101]⟩) ((((ix s.res.chg ((cix s.res.chg key)).toNat))).veh) 17)]) ++ [(Fc.mk (⟨#[112, 111, 115, 116, 101, 100]⟩) key 0)]))), .fl (.int .i64 0)], (.cons (.tmp rfl (.d _)) (.cons (.tmp rfl (.d _)) .nil)), ?_⟩
              have hu : chg s key = (((((([(Fc.mk ⟨#[99, 104, 97, 114, 103, 101]⟩ key 0)] ++ (cat gL (ix s.res.chg (cix s.res.chg key).toNat).lines (ix s.res.chg (cix s.res.chg key).toNat).lines.length)) ++ [(Fc.mk (⟨#[116, 114, 105, 112]⟩) (((ix s.res.trips ((tix s.res key)).toNat)).id) 0)]) ++ (stp s.res (((ix s.res.trips ((tix s.res key)).toNat))))) ++ [(Fc.mk (⟨#[118, 101, 104, 105, 99, 108, 101]⟩) ((((ix s.res.chg ((cix s.res.chg key)).toNat))).veh) 17)]) ++ [(Fc.mk (⟨#[112, 111, 115, 116, 101, 100]⟩) key 0)]), 0) := by rw [chg_yes h1, tF_yes h7, yF_no h9, aF_no h15, pF_yes h17]; try simp only [List.append_assoc, List.cons_append, List.nil_append, List.append_nil]
              rw [hu]; rfl
            · skip
              refine a_skip ?_
              show A _ _ _ _ _ _ _
              refine a_rseq ?_
              refine rg_nam (d := 110) (v := .ow 116) (m := 116) (nw := [(116, .tr 81 3 (tD eFc ((((([(Fc.mk ⟨#[99, 104, 97, 114, 103, 101]⟩ key 0)] ++ (cat gL (ix s.res.chg (cix s.res.chg key).toNat).lines (ix s.res.chg (cix s.res.chg key).toNat).lines.length)) ++ [(Fc.mk (⟨#[116, 114, 105, 112]⟩) (((ix s.res.trips ((tix s.res key)).toNat)).id) 0)]) ++ (stp s.res (((ix s.res.trips ((tix s.res key)).toNat))))) ++ [(Fc.mk (⟨#[118, 101, 104, 105, 99, 108, 101]⟩) ((((ix s.res.chg ((cix s.res.chg key)).toNat))).veh) 17)])))), (105, .bt 69 [.un])]) rfl (og rfl (of_eff (op_takeBt 116 rfl Tryd.underlying69 rfl rfl rfl rfl rfl rfl) rfl)) rfl ?_
              refine rg_put (d := 4) (v := .ow 116) rfl (og rfl (op_assign rfl rfl rfl)) ?_
              refine rg_put (d := 5) (v := .d (.fl (.int .i64 0))) rfl (og rfl (op_assign rfl rfl rfl)) ?_
              refine rg_done rfl ?_
              refine a_imp (imp_leakT 4 116 rfl rfl) ?_
              refine a_ret ?_
              show ∃ ds, ResL _ _ _ ds ∧ RV.of ds = _
              refine ⟨[.sl 3 (List.map eFc ((((([(Fc.mk ⟨#[99, 104, 97, 114, 103, 101]⟩ key 0)] ++ (cat gL (ix s.res.chg (cix s.res.chg key).toNat).lines (ix s.res.chg (cix s.res.chg key).toNat).lines.length)) ++ [(Fc.mk (⟨#[116, 114, 105, 112]⟩) (((ix s.res.trips ((tix s.res key)).toNat)).id) 0)]) ++ (stp s.res (((ix s.res.trips ((tix s.res key)).toNat))))) ++ [(Fc.mk (⟨#[118, 101, 104, 105, 99, 108, 101]⟩) ((((ix s.res.chg ((cix s.res.chg key)).toNat))).veh) 17)]))), .fl (.int .i64 0)], (.cons (.tmp rfl (.d _)) (.cons (.tmp rfl (.d _)) .nil)), ?_⟩
              have hu : chg s key = ((((([(Fc.mk ⟨#[99, 104, 97, 114, 103, 101]⟩ key 0)] ++ (cat gL (ix s.res.chg (cix s.res.chg key).toNat).lines (ix s.res.chg (cix s.res.chg key).toNat).lines.length)) ++ [(Fc.mk (⟨#[116, 114, 105, 112]⟩) (((ix s.res.trips ((tix s.res key)).toNat)).id) 0)]) ++ (stp s.res (((ix s.res.trips ((tix s.res key)).toNat))))) ++ [(Fc.mk (⟨#[118, 101, 104, 105, 99, 108, 101]⟩) ((((ix s.res.chg ((cix s.res.chg key)).toNat))).veh) 17)]), 0) := by rw [chg_yes h1, tF_yes h7, yF_no h9, aF_no h15, pF_no h17]; try simp only [List.append_assoc, List.cons_append, List.nil_append, List.append_nil]
              rw [hu]; rfl
      · skip
        have h18 := f_dec h7
        refine a_skip ?_
        show A _ _ _ _ _ _ _
        refine a_seq ?_
        refine a_rseq ?_
        refine rg_put (d := 69) (v := .pt 103 3) rfl (og rfl (of_eff (s_field_pt rfl Tryd.underlying56 rfl ti52 rfl rfl rfl) rfl)) ?_
        refine rg_put (d := 70) (v := .d (.sl 5 (List.map eSy s.res.stays))) rfl (og rfl (op_load_pt rfl Tryd.underlying52 rfl rfl rfl rfl rfl)) ?_
        refine rg_put (d := 71) (v := .d (.fn 38 [.el [.fl (.string key)]])) rfl (og rfl (op_mkfn rfl (.cons rfl .nil) rfl)) ?_
        refine rg_put (d := 72) (v := .d (.fl (.int .i64 (six s.res key)))) rfl (og rfl (op_call rfl Tryd.func37 nm37 rfl (.cons rfl (.d _) (.cons rfl (.d _) .nil)) (ix37 s.res.stays key (by have := hT.2.2.2.2.1; omega) (fun q h => hT.2.2.2.2.2.2.1 q h)) rfl)) ?_
        refine rg_put (d := 14) (v := .d (.fl (.int .i64 (six s.res key)))) rfl (og rfl (op_assign rfl rfl rfl)) ?_
        refine rg_done rfl ?_
        refine a_rseq ?_
        refine rg_put (d := 73) (v := .d (.fl (.int .i64 (six s.res key)))) rfl (og rfl (op_move rfl rfl rfl)) ?_
        refine rg_put (d := 74) (v := .d (.fl (.bool ((decide (0 ≤ (six s.res key))))))) rfl (og rfl (op_bin rfl rfl rfl (b_geq _ _ _ _) rfl)) ?_
        refine rg_done rfl ?_
        refine a_cond rfl (fun h19 => ?_) (fun h19 => ?_)
        · skip
          have h20 := t_dec h19
          refine a_region ?_
          refine rg_put (d := 75) (v := .cl 33 [.p 105]) rfl (og rfl (op_move rfl rfl rfl)) ?_
          refine rg_put (d := 76) (v := .pt 103 3) rfl (og rfl (of_eff (s_field_pt rfl Tryd.underlying56 rfl ti52 rfl rfl rfl) rfl)) ?_
          refine rg_put (d := 77) (v := .d (.sl 5 (List.map eSy s.res.stays))) rfl (og rfl (op_load_pt rfl Tryd.underlying52 rfl rfl rfl rfl rfl)) ?_
          refine rg_put (d := 78) (v := .d (.fl (.int .i64 (six s.res key)))) rfl (og rfl (op_move rfl rfl rfl)) ?_
          refine rg_put (d := 79) (v := .el ((eSy ((ix s.res.stays ((six s.res key)).toNat))))) rfl (og rfl (s_index rfl Tryd.underlying52 ti126 rfl rfl (by omega) (row_atI (by omega) (by omega)) rfl)) ?_
          refine rg_put (d := 80) (v := .el ((List.drop 0 ((eSy ((ix s.res.stays ((six s.res key)).toNat))))))) rfl (og rfl (of_eff (s_field_el rfl Tryd.underlying126 rfl ti9 rfl rfl rfl) rfl)) ?_
          refine rg_put (d := 81) (v := .d (.fl (.string (((ix s.res.stays ((six s.res key)).toNat)).id)))) rfl (og rfl (op_load_el rfl Tryd.underlying9 rfl rfl rfl rfl)) ?_
          refine rg_upd (d := 82) (v := .tu []) (nw := [(105, .bt 69 [.ow 81 3 (List.map eFc ((([(Fc.mk ⟨#[99, 104, 97, 114, 103, 101]⟩ key 0)] ++ (cat gL (ix s.res.chg (cix s.res.chg key).toNat).lines (ix s.res.chg (cix s.res.chg key).toNat).lines.length)) ++ [(Fc.mk (⟨#[115, 116, 97, 121]⟩) (((ix s.res.stays ((six s.res key)).toNat)).id) 0)])))])]) rfl (og rfl (of_eff (op_callXV [105] (obs := [.bt 69 [.ow 81 3 (List.map eFc (([(Fc.mk ⟨#[99, 104, 97, 114, 103, 101]⟩ key 0)] ++ (cat gL (ix s.res.chg (cix s.res.chg key).toNat).lines (ix s.res.chg (cix s.res.chg key).toNat).lines.length))))]]) (obs' := [.bt 69 [.ow 81 3 (List.map eFc ((([(Fc.mk ⟨#[99, 104, 97, 114, 103, 101]⟩ key 0)] ++ (cat gL (ix s.res.chg (cix s.res.chg key).toNat).lines (ix s.res.chg (cix s.res.chg key).toNat).lines.length)) ++ [(Fc.mk (⟨#[115, 116, 97, 121]⟩) (((ix s.res.stays ((six s.res key)).toNat)).id) 0)])))]]) (r := .tu []) rfl ⟨_, Tryd.func33, nm33, rfl⟩ rfl (.d rfl (.d _) (.d rfl (.d _) (.d rfl (.d _) .nil))) (.p 0 rfl .nil) rfl (And.intro rfl trivial) rfl rfl rfl (add33 (([(Fc.mk ⟨#[99, 104, 97, 114, 103, 101]⟩ key 0)] ++ (cat gL (ix s.res.chg (cix s.res.chg key).toNat).lines (ix s.res.chg (cix s.res.chg key).toNat).lines.length))) (⟨#[115, 116, 97, 121]⟩) (((ix s.res.stays ((six s.res key)).toNat)).id) 0 (by simp only [List.length_append, List.length_cons, List.length_nil]; omega)) rfl) rfl)) ?_
          refine rg_done rfl ?_
          show A _ _ _ _ _ _ _
          refine a_seq ?_
          refine a_rseq ?_
          refine rg_put (d := 84) (v := .pt 101 0) rfl (og rfl (of_eff (s_field_pt rfl Tryd.underlying64 rfl ti46 rfl rfl rfl) rfl)) ?_
          refine rg_put (d := 85) (v := .pt 101 17) rfl (og rfl (of_eff (s_field_pt rfl Tryd.underlying46 rfl ti40 rfl rfl rfl) rfl)) ?_
          refine rg_put (d := 86) (v := .d (.sl 9 (List.map eAc s.cfg.acc))) rfl (og rfl (op_load_pt rfl Tryd.underlying40 rfl rfl rfl rfl rfl)) ?_
          refine rg_put (d := 87) (v := .pt 104 1) rfl (og rfl (of_eff (s_field_pt rfl Tryd.underlying93 rfl ti9 rfl rfl rfl) rfl)) ?_
          refine rg_put (d := 88) (v := .d (.fl (.string ((((ix s.res.chg ((cix s.res.chg key)).toNat))).veh)))) rfl (og rfl (op_load_pt rfl Tryd.underlying9 rfl rfl rfl rfl rfl)) ?_
          refine rg_put (d := 89) (v := .pt 104 4) rfl (og rfl (of_eff (s_field_pt rfl Tryd.underlying93 rfl ti3 rfl rfl rfl) rfl)) ?_
          refine rg_put (d := 90) (v := .d (.fl (.int .i64 ((((ix s.res.chg ((cix s.res.chg key)).toNat))).time)))) rfl (og rfl (op_load_pt rfl Tryd.underlying3 rfl rfl rfl rfl rfl)) ?_
          refine rg_put (d := 91) (v := .tu [.fl (.string ((own s.cfg.acc ((((ix s.res.chg ((cix s.res.chg key)).toNat))).veh) ((((ix s.res.chg ((cix s.res.chg key)).toNat))).time)).1)), .fl (.bool ((own s.cfg.acc ((((ix s.res.chg ((cix s.res.chg key)).toNat))).veh) ((((ix s.res.chg ((cix s.res.chg key)).toNat))).time)).2))]) rfl (og rfl (op_call rfl Tryd.func39 nm39 rfl (.cons rfl (.d _) (.cons rfl (.d _) (.cons rfl (.d _) .nil))) (own39 s.cfg.acc ((((ix s.res.chg ((cix s.res.chg key)).toNat))).veh) ((((ix s.res.chg ((cix s.res.chg key)).toNat))).time) (by omega) hs5) rfl)) ?_
          refine rg_put (d := 83) (v := .tu [.fl (.string ((own s.cfg.acc ((((ix s.res.chg ((cix s.res.chg key)).toNat))).veh) ((((ix s.res.chg ((cix s.res.chg key)).toNat))).time)).1)), .fl (.bool ((own s.cfg.acc ((((ix s.res.chg ((cix s.res.chg key)).toNat))).veh) ((((ix s.res.chg ((cix s.res.chg key)).toNat))).time)).2))]) rfl (og rfl (op_move rfl rfl rfl)) ?_
          refine rg_put (d := 92) (v := .d (.fl (.string ((own s.cfg.acc ((((ix s.res.chg ((cix s.res.chg key)).toNat))).veh) ((((ix s.res.chg ((cix s.res.chg key)).toNat))).time)).1)))) rfl (og rfl (op_extract rfl rfl rfl rfl)) ?_
          refine rg_put (d := 93) (v := .d (.fl (.bool ((own s.cfg.acc ((((ix s.res.chg ((cix s.res.chg key)).toNat))).veh) ((((ix s.res.chg ((cix s.res.chg key)).toNat))).time)).2)))) rfl (og rfl (op_extract rfl rfl rfl rfl)) ?_
          refine rg_put (d := 15) (v := .d (.fl (.string ((own s.cfg.acc ((((ix s.res.chg ((cix s.res.chg key)).toNat))).veh) ((((ix s.res.chg ((cix s.res.chg key)).toNat))).time)).1)))) rfl (og rfl (op_assign rfl rfl rfl)) ?_
          refine rg_put (d := 16) (v := .d (.fl (.bool ((own s.cfg.acc ((((ix s.res.chg ((cix s.res.chg key)).toNat))).veh) ((((ix s.res.chg ((cix s.res.chg key)).toNat))).time)).2)))) rfl (og rfl (op_assign rfl rfl rfl)) ?_
          refine rg_done rfl ?_
          refine a_rseq ?_
          refine rg_put (d := 94) (v := .d (.fl (.bool ((own s.cfg.acc ((((ix s.res.chg ((cix s.res.chg key)).toNat))).veh) ((((ix s.res.chg ((cix s.res.chg key)).toNat))).time)).2)))) rfl (og rfl (op_move rfl rfl rfl)) ?_
          refine rg_done rfl ?_
          refine a_cond rfl (fun h21 => ?_) (fun h21 => ?_)
          · skip
            refine a_region ?_
            refine rg_put (d := 95) (v := .cl 33 [.p 105]) rfl (og rfl (op_move rfl rfl rfl)) ?_
            refine rg_put (d := 96) (v := .d (.fl (.string ((own s.cfg.acc ((((ix s.res.chg ((cix s.res.chg key)).toNat))).veh) ((((ix s.res.chg ((cix s.res.chg key)).toNat))).time)).1)))) rfl (og rfl (op_move rfl rfl rfl)) ?_
            refine rg_upd (d := 97) (v := .tu []) (nw := [(105, .bt 69 [.ow 81 3 (List.map eFc (((([(Fc.mk ⟨#[99, 104, 97, 114, 103, 101]⟩ key 0)] ++ (cat gL (ix s.res.chg (cix s.res.chg key).toNat).lines (ix s.res.chg (cix s.res.chg key).toNat).lines.length)) ++ [(Fc.mk (⟨#[115, 116, 97, 121]⟩) (((ix s.res.stays ((six s.res key)).toNat)).id) 0)]) ++ [(Fc.mk (⟨#[97, 99, 99, 111, 117, 110, 116]⟩) ((own s.cfg.acc ((((ix s.res.chg ((cix s.res.chg key)).toNat))).veh) ((((ix s.res.chg ((cix s.res.chg key)).toNat))).time)).1) 0)])))])]) rfl (og rfl (of_eff (op_callXV [105] (obs := [.bt 69 [.ow 81 3 (List.map eFc ((([(Fc.mk ⟨#[99, 104, 97, 114, 103, 101]⟩ key 0)] ++ (cat gL (ix s.res.chg (cix s.res.chg key).toNat).lines (ix s.res.chg (cix s.res.chg key).toNat).lines.length)) ++ [(Fc.mk (⟨#[115, 116, 97, 121]⟩) (((ix s.res.stays ((six s.res key)).toNat)).id) 0)])))]]) (obs' := [.bt 69 [.ow 81 3 (List.map eFc (((([(Fc.mk ⟨#[99, 104, 97, 114, 103, 101]⟩ key 0)] ++ (cat gL (ix s.res.chg (cix s.res.chg key).toNat).lines (ix s.res.chg (cix s.res.chg key).toNat).lines.length)) ++ [(Fc.mk (⟨#[115, 116, 97, 121]⟩) (((ix s.res.stays ((six s.res key)).toNat)).id) 0)]) ++ [(Fc.mk (⟨#[97, 99, 99, 111, 117, 110, 116]⟩) ((own s.cfg.acc ((((ix s.res.chg ((cix s.res.chg key)).toNat))).veh) ((((ix s.res.chg ((cix s.res.chg key)).toNat))).time)).1) 0)])))]]) (r := .tu []) rfl ⟨_, Tryd.func33, nm33, rfl⟩ rfl (.d rfl (.d _) (.d rfl (.d _) (.d rfl (.d _) .nil))) (.p 0 rfl .nil) rfl (And.intro rfl trivial) rfl rfl rfl (add33 ((([(Fc.mk ⟨#[99, 104, 97, 114, 103, 101]⟩ key 0)] ++ (cat gL (ix s.res.chg (cix s.res.chg key).toNat).lines (ix s.res.chg (cix s.res.chg key).toNat).lines.length)) ++ [(Fc.mk (⟨#[115, 116, 97, 121]⟩) (((ix s.res.stays ((six s.res key)).toNat)).id) 0)])) (⟨#[97, 99, 99, 111, 117, 110, 116]⟩) ((own s.cfg.acc ((((ix s.res.chg ((cix s.res.chg key)).toNat))).veh) ((((ix s.res.chg ((cix s.res.chg key)).toNat))).time)).1) 0 (by simp only [List.length_append, List.length_cons, List.length_nil]; omega)) rfl) rfl)) ?_
            refine rg_done rfl ?_
            show A _ _ _ _ _ _ _
            refine a_seq ?_
            refine a_rseq ?_
            refine rg_put (d := 102) (v := .pt 101 35) rfl (og rfl (of_eff (s_field_pt rfl Tryd.underlying64 rfl ti61 rfl rfl rfl) rfl)) ?_
            refine rg_put (d := 103) (v := .pt 101 36) rfl (og rfl (of_eff (s_field_pt rfl Tryd.underlying61 rfl ti53 rfl rfl rfl) rfl)) ?_
            refine rg_put (d := 104) (v := .d (.sl 7 (List.map eCg s.books.done))) rfl (og rfl (op_load_pt rfl Tryd.underlying53 rfl rfl rfl rfl rfl)) ?_
            refine rg_put (d := 105) (v := .d (.fl (.string key))) rfl (og rfl (op_load_el rfl Tryd.underlying9 rfl rfl rfl rfl)) ?_
            refine rg_put (d := 106) (v := .d (.fl (.bool (hasK s.books.done key)))) rfl (og rfl (op_call rfl Tryd.func40 nm40 rfl (.cons rfl (.d _) (.cons rfl (.d _) .nil)) (hasK40 s.books.done key (by omega)) rfl)) ?_
            refine rg_done rfl ?_
            refine a_cond rfl (fun h22 => ?_) (fun h22 => ?_)
            · skip
              refine a_region ?_
              refine rg_put (d := 107) (v := .cl 33 [.p 105]) rfl (og rfl (op_move rfl rfl rfl)) ?_
              refine rg_put (d := 108) (v := .d (.fl (.string key))) rfl (og rfl (op_load_el rfl Tryd.underlying9 rfl rfl rfl rfl)) ?_
              refine rg_upd (d := 109) (v := .tu []) (nw := [(105, .bt 69 [.ow 81 3 (List.map eFc ((((([(Fc.mk ⟨#[99, 104, 97, 114, 103, 101]⟩ key 0)] ++ (cat gL (ix s.res.chg (cix s.res.chg key).toNat).lines (ix s.res.chg (cix s.res.chg key).toNat).lines.length)) ++ [(Fc.mk (⟨#[115, 116, 97, 121]⟩) (((ix s.res.stays ((six s.res key)).toNat)).id) 0)]) ++ [(Fc.mk (⟨#[97, 99, 99, 111, 117, 110, 116]⟩) ((own s.cfg.acc ((((ix s.res.chg ((cix s.res.chg key)).toNat))).veh) ((((ix s.res.chg ((cix s.res.chg key)).toNat))).time)).1) 0)]) ++ [(Fc.mk (⟨#[112, 111, 115, 116, 101, 100]⟩) key 0)])))])]) rfl (og rfl (of_eff (op_callXV [105] (obs := [.bt 69 [.ow 81 3 (List.map eFc (((([(Fc.mk ⟨#[99, 104, 97, 114, 103, 101]⟩ key 0)] ++ (cat gL (ix s.res.chg (cix s.res.chg key).toNat).lines (ix s.res.chg (cix s.res.chg key).toNat).lines.length)) ++ [(Fc.mk (⟨#[115, 116, 97, 121]⟩) (((ix s.res.stays ((six s.res key)).toNat)).id) 0)]) ++ [(Fc.mk (⟨#[97, 99, 99, 111, 117, 110, 116]⟩) ((own s.cfg.acc ((((ix s.res.chg ((cix s.res.chg key)).toNat))).veh) ((((ix s.res.chg ((cix s.res.chg key)).toNat))).time)).1) 0)])))]]) (obs' := [.bt 69 [.ow 81 3 (List.map eFc ((((([(Fc.mk ⟨#[99, 104, 97, 114, 103, 101]⟩ key 0)] ++ (cat gL (ix s.res.chg (cix s.res.chg key).toNat).lines (ix s.res.chg (cix s.res.chg key).toNat).lines.length)) ++ [(Fc.mk (⟨#[115, 116, 97, 121]⟩) (((ix s.res.stays ((six s.res key)).toNat)).id) 0)]) ++ [(Fc.mk (⟨#[97, 99, 99, 111, 117, 110, 116]⟩) ((own s.cfg.acc ((((ix s.res.chg ((cix s.res.chg key)).toNat))).veh) ((((ix s.res.chg ((cix s.res.chg key)).toNat))).time)).1) 0)]) ++ [(Fc.mk (⟨#[112, 111, 115, 116, 101, 100]⟩) key 0)])))]]) (r := .tu []) rfl ⟨_, Tryd.func33, nm33, rfl⟩ rfl (.d rfl (.d _) (.d rfl (.d _) (.d rfl (.d _) .nil))) (.p 0 rfl .nil) rfl (And.intro rfl trivial) rfl rfl rfl (add33 (((([(Fc.mk ⟨#[99, 104, 97, 114, 103, 101]⟩ key 0)] ++ (cat gL (ix s.res.chg (cix s.res.chg key).toNat).lines (ix s.res.chg (cix s.res.chg key).toNat).lines.length)) ++ [(Fc.mk (⟨#[115, 116, 97, 121]⟩) (((ix s.res.stays ((six s.res key)).toNat)).id) 0)]) ++ [(Fc.mk (⟨#[97, 99, 99, 111, 117, 110, 116]⟩) ((own s.cfg.acc ((((ix s.res.chg ((cix s.res.chg key)).toNat))).veh) ((((ix s.res.chg ((cix s.res.chg key)).toNat))).time)).1) 0)])) (⟨#[112, 111, 115, 116, 101, 100]⟩) key 0 (by simp only [List.length_append, List.length_cons, List.length_nil]; omega)) rfl) rfl)) ?_
              refine rg_done rfl ?_
              show A _ _ _ _ _ _ _
              refine a_rseq ?_
              refine rg_nam (d := 110) (v := .ow 117) (m := 117) (nw := [(117, .tr 81 3 (tD eFc ((((([(Fc.mk ⟨#[99, 104, 97, 114, 103, 101]⟩ key 0)] ++ (cat gL (ix s.res.chg (cix s.res.chg key).toNat).lines (ix s.res.chg (cix s.res.chg key).toNat).lines.length)) ++ [(Fc.mk (⟨#[115, 116, 97, 121]⟩) (((ix s.res.stays ((six s.res key)).toNat)).id) 0)]) ++ [(Fc.mk (⟨#[97, 99, 99, 111, 117, 110, 116]⟩) ((own s.cfg.acc ((((ix s.res.chg ((cix s.res.chg key)).toNat))).veh) ((((ix s.res.chg ((cix s.res.chg key)).toNat))).time)).1) 0)]) ++ [(Fc.mk (⟨#[112, 111, 115, 116, 101, 100]⟩) key 0)])))), (105, .bt 69 [.un])]) rfl (og rfl (of_eff (op_takeBt 117 rfl Tryd.underlying69 rfl rfl rfl rfl rfl rfl) rfl)) rfl ?_
              refine rg_put (d := 4) (v := .ow 117) rfl (og rfl (op_assign rfl rfl rfl)) ?_
              refine rg_put (d := 5) (v := .d (.fl (.int .i64 0))) rfl (og rfl (op_assign rfl rfl rfl)) ?_
              refine rg_done rfl ?_
              refine a_imp (imp_leakT 4 117 rfl rfl) ?_
              refine a_ret ?_
              show ∃ ds, ResL _ _ _ ds ∧ RV.of ds = _
              refine ⟨[.sl 3 (List.map eFc ((((([(Fc.mk ⟨#[99, 104, 97, 114, 103, 101]⟩ key 0)] ++ (cat gL (ix s.res.chg (cix s.res.chg key).toNat).lines (ix s.res.chg (cix s.res.chg key).toNat).lines.length)) ++ [(Fc.mk (⟨#[115, 116, 97, 121]⟩) (((ix s.res.stays ((six s.res key)).toNat)).id) 0)]) ++ [(Fc.mk (⟨#[97, 99, 99, 111, 117, 110, 116]⟩) ((own s.cfg.acc ((((ix s.res.chg ((cix s.res.chg key)).toNat))).veh) ((((ix s.res.chg ((cix s.res.chg key)).toNat))).time)).1) 0)]) ++ [(Fc.mk (⟨#[112, 111, 115, 116, 101, 100]⟩) key 0)]))), .fl (.int .i64 0)], (.cons (.tmp rfl (.d _)) (.cons (.tmp rfl (.d _)) .nil)), ?_⟩
              have hu : chg s key = ((((([(Fc.mk ⟨#[99, 104, 97, 114, 103, 101]⟩ key 0)] ++ (cat gL (ix s.res.chg (cix s.res.chg key).toNat).lines (ix s.res.chg (cix s.res.chg key).toNat).lines.length)) ++ [(Fc.mk (⟨#[115, 116, 97, 121]⟩) (((ix s.res.stays ((six s.res key)).toNat)).id) 0)]) ++ [(Fc.mk (⟨#[97, 99, 99, 111, 117, 110, 116]⟩) ((own s.cfg.acc ((((ix s.res.chg ((cix s.res.chg key)).toNat))).veh) ((((ix s.res.chg ((cix s.res.chg key)).toNat))).time)).1) 0)]) ++ [(Fc.mk (⟨#[112, 111, 115, 116, 101, 100]⟩) key 0)]), 0) := by rw [chg_yes h1, tF_no h7, yF_yes h19, aF_yes h21, pF_yes h22]; try simp only [List.append_assoc, List.cons_append, List.nil_append, List.append_nil]
              rw [hu]; rfl
            · skip
              refine a_skip ?_
              show A _ _ _ _ _ _ _
              refine a_rseq ?_
              refine rg_nam (d := 110) (v := .ow 118) (m := 118) (nw := [(118, .tr 81 3 (tD eFc (((([(Fc.mk ⟨#[99, 104, 97, 114, 103, 101]⟩ key 0)] ++ (cat gL (ix s.res.chg (cix s.res.chg key).toNat).lines (ix s.res.chg (cix s.res.chg key).toNat).lines.length)) ++ [(Fc.mk (⟨#[115, 116, 97, 121]⟩) (((ix s.res.stays ((six s.res key)).toNat)).id) 0)]) ++ [(Fc.mk (⟨#[97, 99, 99, 111, 117, 110, 116]⟩) ((own s.cfg.acc ((((ix s.res.chg ((cix s.res.chg key)).toNat))).veh) ((((ix s.res.chg ((cix s.res.chg key)).toNat))).time)).1) 0)])))), (105, .bt 69 [.un])]) rfl (og rfl (of_eff (op_takeBt 118 rfl Tryd.underlying69 rfl rfl rfl rfl rfl rfl) rfl)) rfl ?_
              refine rg_put (d := 4) (v := .ow 118) rfl (og rfl (op_assign rfl rfl rfl)) ?_
              refine rg_put (d := 5) (v := .d (.fl (.int .i64 0))) rfl (og rfl (op_assign rfl rfl rfl)) ?_
              refine rg_done rfl ?_
              refine a_imp (imp_leakT 4 118 rfl rfl) ?_
              refine a_ret ?_
              show ∃ ds, ResL _ _ _ ds ∧ RV.of ds = _
              refine ⟨[.sl 3 (List.map eFc (((([(Fc.mk ⟨#[99, 104, 97, 114, 103, 101]⟩ key 0)] ++ (cat gL (ix s.res.chg (cix s.res.chg key).toNat).lines (ix s.res.chg (cix s.res.chg key).toNat).lines.length)) ++ [(Fc.mk (⟨#[115, 116, 97, 121]⟩) (((ix s.res.stays ((six s.res key)).toNat)).id) 0)]) ++ [(Fc.mk (⟨#[97, 99, 99, 111, 117, 110, 116]⟩) ((own s.cfg.acc ((((ix s.res.chg ((cix s.res.chg key)).toNat))).veh) ((((ix s.res.chg ((cix s.res.chg key)).toNat))).time)).1) 0)]))), .fl (.int .i64 0)], (.cons (.tmp rfl (.d _)) (.cons (.tmp rfl (.d _)) .nil)), ?_⟩
              have hu : chg s key = (((([(Fc.mk ⟨#[99, 104, 97, 114, 103, 101]⟩ key 0)] ++ (cat gL (ix s.res.chg (cix s.res.chg key).toNat).lines (ix s.res.chg (cix s.res.chg key).toNat).lines.length)) ++ [(Fc.mk (⟨#[115, 116, 97, 121]⟩) (((ix s.res.stays ((six s.res key)).toNat)).id) 0)]) ++ [(Fc.mk (⟨#[97, 99, 99, 111, 117, 110, 116]⟩) ((own s.cfg.acc ((((ix s.res.chg ((cix s.res.chg key)).toNat))).veh) ((((ix s.res.chg ((cix s.res.chg key)).toNat))).time)).1) 0)]), 0) := by rw [chg_yes h1, tF_no h7, yF_yes h19, aF_yes h21, pF_no h22]; try simp only [List.append_assoc, List.cons_append, List.nil_append, List.append_nil]
              rw [hu]; rfl
          · skip
            refine a_region ?_
            refine rg_put (d := 98) (v := .cl 33 [.p 105]) rfl (og rfl (op_move rfl rfl rfl)) ?_
            refine rg_put (d := 99) (v := .pt 104 1) rfl (og rfl (of_eff (s_field_pt rfl Tryd.underlying93 rfl ti9 rfl rfl rfl) rfl)) ?_
            refine rg_put (d := 100) (v := .d (.fl (.string ((((ix s.res.chg ((cix s.res.chg key)).toNat))).veh)))) rfl (og rfl (op_load_pt rfl Tryd.underlying9 rfl rfl rfl rfl rfl)) ?_
            refine rg_upd (d := 101) (v := .tu []) (nw := [(105, .bt 69 [.ow 81 3 (List.map eFc (((([(Fc.mk ⟨#[99, 104, 97, 114, 103, 101]⟩ key 0)] ++ (cat gL (ix s.res.chg (cix s.res.chg key).toNat).lines (ix s.res.chg (cix s.res.chg key).toNat).lines.length)) ++ [(Fc.mk (⟨#[115, 116, 97, 121]⟩) (((ix s.res.stays ((six s.res key)).toNat)).id) 0)]) ++ [(Fc.mk (⟨#[118, 101, 104, 105, 99, 108, 101]⟩) ((((ix s.res.chg ((cix s.res.chg key)).toNat))).veh) 17)])))])]) rfl (og rfl (of_eff (op_callXV [105] (obs := [.bt 69 [.ow 81 3 (List.map eFc ((([(Fc.mk ⟨#[99, 104, 97, 114, 103, 101]⟩ key 0)] ++ (cat gL (ix s.res.chg (cix s.res.chg key).toNat).lines (ix s.res.chg (cix s.res.chg key).toNat).lines.length)) ++ [(Fc.mk (⟨#[115, 116, 97, 121]⟩) (((ix s.res.stays ((six s.res key)).toNat)).id) 0)])))]]) (obs' := [.bt 69 [.ow 81 3 (List.map eFc (((([(Fc.mk ⟨#[99, 104, 97, 114, 103, 101]⟩ key 0)] ++ (cat gL (ix s.res.chg (cix s.res.chg key).toNat).lines (ix s.res.chg (cix s.res.chg key).toNat).lines.length)) ++ [(Fc.mk (⟨#[115, 116, 97, 121]⟩) (((ix s.res.stays ((six s.res key)).toNat)).id) 0)]) ++ [(Fc.mk (⟨#[118, 101, 104, 105, 99, 108, 101]⟩) ((((ix s.res.chg ((cix s.res.chg key)).toNat))).veh) 17)])))]]) (r := .tu []) rfl ⟨_, Tryd.func33, nm33, rfl⟩ rfl (.d rfl (.d _) (.d rfl (.d _) (.d rfl (.d _) .nil))) (.p 0 rfl .nil) rfl (And.intro rfl trivial) rfl rfl rfl (add33 ((([(Fc.mk ⟨#[99, 104, 97, 114, 103, 101]⟩ key 0)] ++ (cat gL (ix s.res.chg (cix s.res.chg key).toNat).lines (ix s.res.chg (cix s.res.chg key).toNat).lines.length)) ++ [(Fc.mk (⟨#[115, 116, 97, 121]⟩) (((ix s.res.stays ((six s.res key)).toNat)).id) 0)])) (⟨#[118, 101, 104, 105, 99, 108, 101]⟩) ((((ix s.res.chg ((cix s.res.chg key)).toNat))).veh) 17 (by simp only [List.length_append, List.length_cons, List.length_nil]; omega)) rfl) rfl)) ?_
            refine rg_done rfl ?_
            show A _ _ _ _ _ _ _
            refine a_seq ?_
            refine a_rseq ?_
            refine rg_put (d := 102) (v := .pt 101 35) rfl (og rfl (of_eff (s_field_pt rfl Tryd.underlying64 rfl ti61 rfl rfl rfl) rfl)) ?_
            refine rg_put (d := 103) (v := .pt 101 36) rfl (og rfl (of_eff (s_field_pt rfl Tryd.underlying61 rfl ti53 rfl rfl rfl) rfl)) ?_
            refine rg_put (d := 104) (v := .d (.sl 7 (List.map eCg s.books.done))) rfl (og rfl (op_load_pt rfl Tryd.underlying53 rfl rfl rfl rfl rfl)) ?_
            refine rg_put (d := 105) (v := .d (.fl (.string key))) rfl (og rfl (op_load_el rfl Tryd.underlying9 rfl rfl rfl rfl)) ?_
            refine rg_put (d := 106) (v := .d (.fl (.bool (hasK s.books.done key)))) rfl (og rfl (op_call rfl Tryd.func40 nm40 rfl (.cons rfl (.d _) (.cons rfl (.d _) .nil)) (hasK40 s.books.done key (by omega)) rfl)) ?_
            refine rg_done rfl ?_
            refine a_cond rfl (fun h23 => ?_) (fun h23 => ?_)
            · skip
              refine a_region ?_
              refine rg_put (d := 107) (v := .cl 33 [.p 105]) rfl (og rfl (op_move rfl rfl rfl)) ?_
              refine rg_put (d := 108) (v := .d (.fl (.string key))) rfl (og rfl (op_load_el rfl Tryd.underlying9 rfl rfl rfl rfl)) ?_
              refine rg_upd (d := 109) (v := .tu []) (nw := [(105, .bt 69 [.ow 81 3 (List.map eFc ((((([(Fc.mk ⟨#[99, 104, 97, 114, 103, 101]⟩ key 0)] ++ (cat gL (ix s.res.chg (cix s.res.chg key).toNat).lines (ix s.res.chg (cix s.res.chg key).toNat).lines.length)) ++ [(Fc.mk (⟨#[115, 116, 97, 121]⟩) (((ix s.res.stays ((six s.res key)).toNat)).id) 0)]) ++ [(Fc.mk (⟨#[118, 101, 104, 105, 99, 108, 101]⟩) ((((ix s.res.chg ((cix s.res.chg key)).toNat))).veh) 17)]) ++ [(Fc.mk (⟨#[112, 111, 115, 116, 101, 100]⟩) key 0)])))])]) rfl (og rfl (of_eff (op_callXV [105] (obs := [.bt 69 [.ow 81 3 (List.map eFc (((([(Fc.mk ⟨#[99, 104, 97, 114, 103, 101]⟩ key 0)] ++ (cat gL (ix s.res.chg (cix s.res.chg key).toNat).lines (ix s.res.chg (cix s.res.chg key).toNat).lines.length)) ++ [(Fc.mk (⟨#[115, 116, 97, 121]⟩) (((ix s.res.stays ((six s.res key)).toNat)).id) 0)]) ++ [(Fc.mk (⟨#[118, 101, 104, 105, 99, 108, 101]⟩) ((((ix s.res.chg ((cix s.res.chg key)).toNat))).veh) 17)])))]]) (obs' := [.bt 69 [.ow 81 3 (List.map eFc ((((([(Fc.mk ⟨#[99, 104, 97, 114, 103, 101]⟩ key 0)] ++ (cat gL (ix s.res.chg (cix s.res.chg key).toNat).lines (ix s.res.chg (cix s.res.chg key).toNat).lines.length)) ++ [(Fc.mk (⟨#[115, 116, 97, 121]⟩) (((ix s.res.stays ((six s.res key)).toNat)).id) 0)]) ++ [(Fc.mk (⟨#[118, 101, 104, 105, 99, 108, 101]⟩) ((((ix s.res.chg ((cix s.res.chg key)).toNat))).veh) 17)]) ++ [(Fc.mk (⟨#[112, 111, 115, 116, 101, 100]⟩) key 0)])))]]) (r := .tu []) rfl ⟨_, Tryd.func33, nm33, rfl⟩ rfl (.d rfl (.d _) (.d rfl (.d _) (.d rfl (.d _) .nil))) (.p 0 rfl .nil) rfl (And.intro rfl trivial) rfl rfl rfl (add33 (((([(Fc.mk ⟨#[99, 104, 97, 114, 103, 101]⟩ key 0)] ++ (cat gL (ix s.res.chg (cix s.res.chg key).toNat).lines (ix s.res.chg (cix s.res.chg key).toNat).lines.length)) ++ [(Fc.mk (⟨#[115, 116, 97, 121]⟩) (((ix s.res.stays ((six s.res key)).toNat)).id) 0)]) ++ [(Fc.mk (⟨#[118, 101, 104, 105, 99, 108, 101]⟩) ((((ix s.res.chg ((cix s.res.chg key)).toNat))).veh) 17)])) (⟨#[112, 111, 115, 116, 101, 100]⟩) key 0 (by simp only [List.length_append, List.length_cons, List.length_nil]; omega)) rfl) rfl)) ?_
              refine rg_done rfl ?_
              show A _ _ _ _ _ _ _
              refine a_rseq ?_
              refine rg_nam (d := 110) (v := .ow 119) (m := 119) (nw := [(119, .tr 81 3 (tD eFc ((((([(Fc.mk ⟨#[99, 104, 97, 114, 103, 101]⟩ key 0)] ++ (cat gL (ix s.res.chg (cix s.res.chg key).toNat).lines (ix s.res.chg (cix s.res.chg key).toNat).lines.length)) ++ [(Fc.mk (⟨#[115, 116, 97, 121]⟩) (((ix s.res.stays ((six s.res key)).toNat)).id) 0)]) ++ [(Fc.mk (⟨#[118, 101, 104, 105, 99, 108, 101]⟩) ((((ix s.res.chg ((cix s.res.chg key)).toNat))).veh) 17)]) ++ [(Fc.mk (⟨#[112, 111, 115, 116, 101, 100]⟩) key 0)])))), (105, .bt 69 [.un])]) rfl (og rfl (of_eff (op_takeBt 119 rfl Tryd.underlying69 rfl rfl rfl rfl rfl rfl) rfl)) rfl ?_
              refine rg_put (d := 4) (v := .ow 119) rfl (og rfl (op_assign rfl rfl rfl)) ?_
              refine rg_put (d := 5) (v := .d (.fl (.int .i64 0))) rfl (og rfl (op_assign rfl rfl rfl)) ?_
              refine rg_done rfl ?_
              refine a_imp (imp_leakT 4 119 rfl rfl) ?_
              refine a_ret ?_
              show ∃ ds, ResL _ _ _ ds ∧ RV.of ds = _
              refine ⟨[.sl 3 (List.map eFc ((((([(Fc.mk ⟨#[99, 104, 97, 114, 103, 101]⟩ key 0)] ++ (cat gL (ix s.res.chg (cix s.res.chg key).toNat).lines (ix s.res.chg (cix s.res.chg key).toNat).lines.length)) ++ [(Fc.mk (⟨#[115, 116, 97, 121]⟩) (((ix s.res.stays ((six s.res key)).toNat)).id) 0)]) ++ [(Fc.mk (⟨#[118, 101, 104, 105, 99, 108, 101]⟩) ((((ix s.res.chg ((cix s.res.chg key)).toNat))).veh) 17)]) ++ [(Fc.mk (⟨#[112, 111, 115, 116, 101, 100]⟩) key 0)]))), .fl (.int .i64 0)], (.cons (.tmp rfl (.d _)) (.cons (.tmp rfl (.d _)) .nil)), ?_⟩
              have hu : chg s key = ((((([(Fc.mk ⟨#[99, 104, 97, 114, 103, 101]⟩ key 0)] ++ (cat gL (ix s.res.chg (cix s.res.chg key).toNat).lines (ix s.res.chg (cix s.res.chg key).toNat).lines.length)) ++ [(Fc.mk (⟨#[115, 116, 97, 121]⟩) (((ix s.res.stays ((six s.res key)).toNat)).id) 0)]) ++ [(Fc.mk (⟨#[118, 101, 104, 105, 99, 108, 101]⟩) ((((ix s.res.chg ((cix s.res.chg key)).toNat))).veh) 17)]) ++ [(Fc.mk (⟨#[112, 111, 115, 116, 101, 100]⟩) key 0)]), 0) := by rw [chg_yes h1, tF_no h7, yF_yes h19, aF_no h21, pF_yes h23]; try simp only [List.append_assoc, List.cons_append, List.nil_append, List.append_nil]
              rw [hu]; rfl
            · skip
              refine a_skip ?_
              show A _ _ _ _ _ _ _
              refine a_rseq ?_
              refine rg_nam (d := 110) (v := .ow 120) (m := 120) (nw := [(120, .tr 81 3 (tD eFc (((([(Fc.mk ⟨#[99, 104, 97, 114, 103, 101]⟩ key 0)] ++ (cat gL (ix s.res.chg (cix s.res.chg key).toNat).lines (ix s.res.chg (cix s.res.chg key).toNat).lines.length)) ++ [(Fc.mk (⟨#[115, 116, 97, 121]⟩) (((ix s.res.stays ((six s.res key)).toNat)).id) 0)]) ++ [(Fc.mk (⟨#[118, 101, 104, 105, 99, 108, 101]⟩) ((((ix s.res.chg ((cix s.res.chg key)).toNat))).veh) 17)])))), (105, .bt 69 [.un])]) rfl (og rfl (of_eff (op_takeBt 120 rfl Tryd.underlying69 rfl rfl rfl rfl rfl rfl) rfl)) rfl ?_
              refine rg_put (d := 4) (v := .ow 120) rfl (og rfl (op_assign rfl rfl rfl)) ?_
              refine rg_put (d := 5) (v := .d (.fl (.int .i64 0))) rfl (og rfl (op_assign rfl rfl rfl)) ?_
              refine rg_done rfl ?_
              refine a_imp (imp_leakT 4 120 rfl rfl) ?_
              refine a_ret ?_
              show ∃ ds, ResL _ _ _ ds ∧ RV.of ds = _
              refine ⟨[.sl 3 (List.map eFc (((([(Fc.mk ⟨#[99, 104, 97, 114, 103, 101]⟩ key 0)] ++ (cat gL (ix s.res.chg (cix s.res.chg key).toNat).lines (ix s.res.chg (cix s.res.chg key).toNat).lines.length)) ++ [(Fc.mk (⟨#[115, 116, 97, 121]⟩) (((ix s.res.stays ((six s.res key)).toNat)).id) 0)]) ++ [(Fc.mk (⟨#[118, 101, 104, 105, 99, 108, 101]⟩) ((((ix s.res.chg ((cix s.res.chg key)).toNat))).veh) 17)]))), .fl (.int .i64 0)], (.cons (.tmp rfl (.d _)) (.cons (.tmp rfl (.d _)) .nil)), ?_⟩
              have hu : chg s key = (((([(Fc.mk ⟨#[99, 104, 97, 114, 103, 101]⟩ key 0)] ++ (cat gL (ix s.res.chg (cix s.res.chg key).toNat).lines (ix s.res.chg (cix s.res.chg key).toNat).lines.length)) ++ [(Fc.mk (⟨#[115, 116, 97, 121]⟩) (((ix s.res.stays ((six s.res key)).toNat)).id) 0)]) ++ [(Fc.mk (⟨#[118, 101, 104, 105, 99, 108, 101]⟩) ((((ix s.res.chg ((cix s.res.chg key)).toNat))).veh) 17)]), 0) := by rw [chg_yes h1, tF_no h7, yF_yes h19, aF_no h21, pF_no h23]; try simp only [List.append_assoc, List.cons_append, List.nil_append, List.append_nil]
              rw [hu]; rfl
        · skip
          have h24 := f_dec h19
          refine a_skip ?_
          show A _ _ _ _ _ _ _
          refine a_seq ?_
          refine a_rseq ?_
          refine rg_put (d := 84) (v := .pt 101 0) rfl (og rfl (of_eff (s_field_pt rfl Tryd.underlying64 rfl ti46 rfl rfl rfl) rfl)) ?_
          refine rg_put (d := 85) (v := .pt 101 17) rfl (og rfl (of_eff (s_field_pt rfl Tryd.underlying46 rfl ti40 rfl rfl rfl) rfl)) ?_
          refine rg_put (d := 86) (v := .d (.sl 9 (List.map eAc s.cfg.acc))) rfl (og rfl (op_load_pt rfl Tryd.underlying40 rfl rfl rfl rfl rfl)) ?_
          refine rg_put (d := 87) (v := .pt 104 1) rfl (og rfl (of_eff (s_field_pt rfl Tryd.underlying93 rfl ti9 rfl rfl rfl) rfl)) ?_
          refine rg_put (d := 88) (v := .d (.fl (.string ((((ix s.res.chg ((cix s.res.chg key)).toNat))).veh)))) rfl (og rfl (op_load_pt rfl Tryd.underlying9 rfl rfl rfl rfl rfl)) ?_
          refine rg_put (d := 89) (v := .pt 104 4) rfl (og rfl (of_eff (s_field_pt rfl Tryd.underlying93 rfl ti3 rfl rfl rfl) rfl)) ?_
          refine rg_put (d := 90) (v := .d (.fl (.int .i64 ((((ix s.res.chg ((cix s.res.chg key)).toNat))).time)))) rfl (og rfl (op_load_pt rfl Tryd.underlying3 rfl rfl rfl rfl rfl)) ?_
          refine rg_put (d := 91) (v := .tu [.fl (.string ((own s.cfg.acc ((((ix s.res.chg ((cix s.res.chg key)).toNat))).veh) ((((ix s.res.chg ((cix s.res.chg key)).toNat))).time)).1)), .fl (.bool ((own s.cfg.acc ((((ix s.res.chg ((cix s.res.chg key)).toNat))).veh) ((((ix s.res.chg ((cix s.res.chg key)).toNat))).time)).2))]) rfl (og rfl (op_call rfl Tryd.func39 nm39 rfl (.cons rfl (.d _) (.cons rfl (.d _) (.cons rfl (.d _) .nil))) (own39 s.cfg.acc ((((ix s.res.chg ((cix s.res.chg key)).toNat))).veh) ((((ix s.res.chg ((cix s.res.chg key)).toNat))).time) (by omega) hs5) rfl)) ?_
          refine rg_put (d := 83) (v := .tu [.fl (.string ((own s.cfg.acc ((((ix s.res.chg ((cix s.res.chg key)).toNat))).veh) ((((ix s.res.chg ((cix s.res.chg key)).toNat))).time)).1)), .fl (.bool ((own s.cfg.acc ((((ix s.res.chg ((cix s.res.chg key)).toNat))).veh) ((((ix s.res.chg ((cix s.res.chg key)).toNat))).time)).2))]) rfl (og rfl (op_move rfl rfl rfl)) ?_
          refine rg_put (d := 92) (v := .d (.fl (.string ((own s.cfg.acc ((((ix s.res.chg ((cix s.res.chg key)).toNat))).veh) ((((ix s.res.chg ((cix s.res.chg key)).toNat))).time)).1)))) rfl (og rfl (op_extract rfl rfl rfl rfl)) ?_
          refine rg_put (d := 93) (v := .d (.fl (.bool ((own s.cfg.acc ((((ix s.res.chg ((cix s.res.chg key)).toNat))).veh) ((((ix s.res.chg ((cix s.res.chg key)).toNat))).time)).2)))) rfl (og rfl (op_extract rfl rfl rfl rfl)) ?_
          refine rg_put (d := 15) (v := .d (.fl (.string ((own s.cfg.acc ((((ix s.res.chg ((cix s.res.chg key)).toNat))).veh) ((((ix s.res.chg ((cix s.res.chg key)).toNat))).time)).1)))) rfl (og rfl (op_assign rfl rfl rfl)) ?_
          refine rg_put (d := 16) (v := .d (.fl (.bool ((own s.cfg.acc ((((ix s.res.chg ((cix s.res.chg key)).toNat))).veh) ((((ix s.res.chg ((cix s.res.chg key)).toNat))).time)).2)))) rfl (og rfl (op_assign rfl rfl rfl)) ?_
          refine rg_done rfl ?_
          refine a_rseq ?_
          refine rg_put (d := 94) (v := .d (.fl (.bool ((own s.cfg.acc ((((ix s.res.chg ((cix s.res.chg key)).toNat))).veh) ((((ix s.res.chg ((cix s.res.chg key)).toNat))).time)).2)))) rfl (og rfl (op_move rfl rfl rfl)) ?_
          refine rg_done rfl ?_
          refine a_cond rfl (fun h25 => ?_) (fun h25 => ?_)
          · skip
            refine a_region ?_
            refine rg_put (d := 95) (v := .cl 33 [.p 105]) rfl (og rfl (op_move rfl rfl rfl)) ?_
            refine rg_put (d := 96) (v := .d (.fl (.string ((own s.cfg.acc ((((ix s.res.chg ((cix s.res.chg key)).toNat))).veh) ((((ix s.res.chg ((cix s.res.chg key)).toNat))).time)).1)))) rfl (og rfl (op_move rfl rfl rfl)) ?_
            refine rg_upd (d := 97) (v := .tu []) (nw := [(105, .bt 69 [.ow 81 3 (List.map eFc ((([(Fc.mk ⟨#[99, 104, 97, 114, 103, 101]⟩ key 0)] ++ (cat gL (ix s.res.chg (cix s.res.chg key).toNat).lines (ix s.res.chg (cix s.res.chg key).toNat).lines.length)) ++ [(Fc.mk (⟨#[97, 99, 99, 111, 117, 110, 116]⟩) ((own s.cfg.acc ((((ix s.res.chg ((cix s.res.chg key)).toNat))).veh) ((((ix s.res.chg ((cix s.res.chg key)).toNat))).time)).1) 0)])))])]) rfl (og rfl (of_eff (op_callXV [105] (obs := [.bt 69 [.ow 81 3 (List.map eFc (([(Fc.mk ⟨#[99, 104, 97, 114, 103, 101]⟩ key 0)] ++ (cat gL (ix s.res.chg (cix s.res.chg key).toNat).lines (ix s.res.chg (cix s.res.chg key).toNat).lines.length))))]]) (obs' := [.bt 69 [.ow 81 3 (List.map eFc ((([(Fc.mk ⟨#[99, 104, 97, 114, 103, 101]⟩ key 0)] ++ (cat gL (ix s.res.chg (cix s.res.chg key).toNat).lines (ix s.res.chg (cix s.res.chg key).toNat).lines.length)) ++ [(Fc.mk (⟨#[97, 99, 99, 111, 117, 110, 116]⟩) ((own s.cfg.acc ((((ix s.res.chg ((cix s.res.chg key)).toNat))).veh) ((((ix s.res.chg ((cix s.res.chg key)).toNat))).time)).1) 0)])))]]) (r := .tu []) rfl ⟨_, Tryd.func33, nm33, rfl⟩ rfl (.d rfl (.d _) (.d rfl (.d _) (.d rfl (.d _) .nil))) (.p 0 rfl .nil) rfl (And.intro rfl trivial) rfl rfl rfl (add33 (([(Fc.mk ⟨#[99, 104, 97, 114, 103, 101]⟩ key 0)] ++ (cat gL (ix s.res.chg (cix s.res.chg key).toNat).lines (ix s.res.chg (cix s.res.chg key).toNat).lines.length))) (⟨#[97, 99, 99, 111, 117, 110, 116]⟩) ((own s.cfg.acc ((((ix s.res.chg ((cix s.res.chg key)).toNat))).veh) ((((ix s.res.chg ((cix s.res.chg key)).toNat))).time)).1) 0 (by simp only [List.length_append, List.length_cons, List.length_nil]; omega)) rfl) rfl)) ?_
            refine rg_done rfl ?_
            show A _ _ _ _ _ _ _
            refine a_seq ?_
            refine a_rseq ?_
            refine rg_put (d := 102) (v := .pt 101 35) rfl (og rfl (of_eff (s_field_pt rfl Tryd.underlying64 rfl ti61 rfl rfl rfl) rfl)) ?_
            refine rg_put (d := 103) (v := .pt 101 36) rfl (og rfl (of_eff (s_field_pt rfl Tryd.underlying61 rfl ti53 rfl rfl rfl) rfl)) ?_
            refine rg_put (d := 104) (v := .d (.sl 7 (List.map eCg s.books.done))) rfl (og rfl (op_load_pt rfl Tryd.underlying53 rfl rfl rfl rfl rfl)) ?_
            refine rg_put (d := 105) (v := .d (.fl (.string key))) rfl (og rfl (op_load_el rfl Tryd.underlying9 rfl rfl rfl rfl)) ?_
            refine rg_put (d := 106) (v := .d (.fl (.bool (hasK s.books.done key)))) rfl (og rfl (op_call rfl Tryd.func40 nm40 rfl (.cons rfl (.d _) (.cons rfl (.d _) .nil)) (hasK40 s.books.done key (by omega)) rfl)) ?_
            refine rg_done rfl ?_
            refine a_cond rfl (fun h26 => ?_) (fun h26 => ?_)
            · skip
              refine a_region ?_
              refine rg_put (d := 107) (v := .cl 33 [.p 105]) rfl (og rfl (op_move rfl rfl rfl)) ?_
              refine rg_put (d := 108) (v := .d (.fl (.string key))) rfl (og rfl (op_load_el rfl Tryd.underlying9 rfl rfl rfl rfl)) ?_
              refine rg_upd (d := 109) (v := .tu []) (nw := [(105, .bt 69 [.ow 81 3 (List.map eFc (((([(Fc.mk ⟨#[99, 104, 97, 114, 103, 101]⟩ key 0)] ++ (cat gL (ix s.res.chg (cix s.res.chg key).toNat).lines (ix s.res.chg (cix s.res.chg key).toNat).lines.length)) ++ [(Fc.mk (⟨#[97, 99, 99, 111, 117, 110, 116]⟩) ((own s.cfg.acc ((((ix s.res.chg ((cix s.res.chg key)).toNat))).veh) ((((ix s.res.chg ((cix s.res.chg key)).toNat))).time)).1) 0)]) ++ [(Fc.mk (⟨#[112, 111, 115, 116, 101, 100]⟩) key 0)])))])]) rfl (og rfl (of_eff (op_callXV [105] (obs := [.bt 69 [.ow 81 3 (List.map eFc ((([(Fc.mk ⟨#[99, 104, 97, 114, 103, 101]⟩ key 0)] ++ (cat gL (ix s.res.chg (cix s.res.chg key).toNat).lines (ix s.res.chg (cix s.res.chg key).toNat).lines.length)) ++ [(Fc.mk (⟨#[97, 99, 99, 111, 117, 110, 116]⟩) ((own s.cfg.acc ((((ix s.res.chg ((cix s.res.chg key)).toNat))).veh) ((((ix s.res.chg ((cix s.res.chg key)).toNat))).time)).1) 0)])))]]) (obs' := [.bt 69 [.ow 81 3 (List.map eFc (((([(Fc.mk ⟨#[99, 104, 97, 114, 103, 101]⟩ key 0)] ++ (cat gL (ix s.res.chg (cix s.res.chg key).toNat).lines (ix s.res.chg (cix s.res.chg key).toNat).lines.length)) ++ [(Fc.mk (⟨#[97, 99, 99, 111, 117, 110, 116]⟩) ((own s.cfg.acc ((((ix s.res.chg ((cix s.res.chg key)).toNat))).veh) ((((ix s.res.chg ((cix s.res.chg key)).toNat))).time)).1) 0)]) ++ [(Fc.mk (⟨#[112, 111, 115, 116, 101, 100]⟩) key 0)])))]]) (r := .tu []) rfl ⟨_, Tryd.func33, nm33, rfl⟩ rfl (.d rfl (.d _) (.d rfl (.d _) (.d rfl (.d _) .nil))) (.p 0 rfl .nil) rfl (And.intro rfl trivial) rfl rfl rfl (add33 ((([(Fc.mk ⟨#[99, 104, 97, 114, 103, 101]⟩ key 0)] ++ (cat gL (ix s.res.chg (cix s.res.chg key).toNat).lines (ix s.res.chg (cix s.res.chg key).toNat).lines.length)) ++ [(Fc.mk (⟨#[97, 99, 99, 111, 117, 110, 116]⟩) ((own s.cfg.acc ((((ix s.res.chg ((cix s.res.chg key)).toNat))).veh) ((((ix s.res.chg ((cix s.res.chg key)).toNat))).time)).1) 0)])) (⟨#[112, 111, 115, 116, 101, 100]⟩) key 0 (by simp only [List.length_append, List.length_cons, List.length_nil]; omega)) rfl) rfl)) ?_
              refine rg_done rfl ?_
              show A _ _ _ _ _ _ _
              refine a_rseq ?_
              refine rg_nam (d := 110) (v := .ow 121) (m := 121) (nw := [(121, .tr 81 3 (tD eFc (((([(Fc.mk ⟨#[99, 104, 97, 114, 103, 101]⟩ key 0)] ++ (cat gL (ix s.res.chg (cix s.res.chg key).toNat).lines (ix s.res.chg (cix s.res.chg key).toNat).lines.length)) ++ [(Fc.mk (⟨#[97, 99, 99, 111, 117, 110, 116]⟩) ((own s.cfg.acc ((((ix s.res.chg ((cix s.res.chg key)).toNat))).veh) ((((ix s.res.chg ((cix s.res.chg key)).toNat))).time)).1) 0)]) ++ [(Fc.mk (⟨#[112, 111, 115, 116, 101, 100]⟩) key 0)])))), (105, .bt 69 [.un])]) rfl (og rfl (of_eff (op_takeBt 121 rfl Tryd.underlying69 rfl rfl rfl rfl rfl rfl) rfl)) rfl ?_
              refine rg_put (d := 4) (v := .ow 121) rfl (og rfl (op_assign rfl rfl rfl)) ?_
              refine rg_put (d := 5) (v := .d (.fl (.int .i64 0))) rfl (og rfl (op_assign rfl rfl rfl)) ?_
              refine rg_done rfl ?_
              refine a_imp (imp_leakT 4 121 rfl rfl) ?_
              refine a_ret ?_
              show ∃ ds, ResL _ _ _ ds ∧ RV.of ds = _
              refine ⟨[.sl 3 (List.map eFc (((([(Fc.mk ⟨#[99, 104, 97, 114, 103, 101]⟩ key 0)] ++ (cat gL (ix s.res.chg (cix s.res.chg key).toNat).lines (ix s.res.chg (cix s.res.chg key).toNat).lines.length)) ++ [(Fc.mk (⟨#[97, 99, 99, 111, 117, 110, 116]⟩) ((own s.cfg.acc ((((ix s.res.chg ((cix s.res.chg key)).toNat))).veh) ((((ix s.res.chg ((cix s.res.chg key)).toNat))).time)).1) 0)]) ++ [(Fc.mk (⟨#[112, 111, 115, 116, 101, 100]⟩) key 0)]))), .fl (.int .i64 0)], (.cons (.tmp rfl (.d _)) (.cons (.tmp rfl (.d _)) .nil)), ?_⟩
              have hu : chg s key = (((([(Fc.mk ⟨#[99, 104, 97, 114, 103, 101]⟩ key 0)] ++ (cat gL (ix s.res.chg (cix s.res.chg key).toNat).lines (ix s.res.chg (cix s.res.chg key).toNat).lines.length)) ++ [(Fc.mk (⟨#[97, 99, 99, 111, 117, 110, 116]⟩) ((own s.cfg.acc ((((ix s.res.chg ((cix s.res.chg key)).toNat))).veh) ((((ix s.res.chg ((cix s.res.chg key)).toNat))).time)).1) 0)]) ++ [(Fc.mk (⟨#[112, 111, 115, 116, 101, 100]⟩) key 0)]), 0) := by rw [chg_yes h1, tF_no h7, yF_no h19, aF_yes h25, pF_yes h26]; try simp only [List.append_assoc, List.cons_append, List.nil_append, List.append_nil]
              rw [hu]; rfl
            · skip
              refine a_skip ?_
              show A _ _ _ _ _ _ _
              refine a_rseq ?_
              refine rg_nam (d := 110) (v := .ow 122) (m := 122) (nw := [(122, .tr 81 3 (tD eFc ((([(Fc.mk ⟨#[99, 104, 97, 114, 103, 101]⟩ key 0)] ++ (cat gL (ix s.res.chg (cix s.res.chg key).toNat).lines (ix s.res.chg (cix s.res.chg key).toNat).lines.length)) ++ [(Fc.mk (⟨#[97, 99, 99, 111, 117, 110, 116]⟩) ((own s.cfg.acc ((((ix s.res.chg ((cix s.res.chg key)).toNat))).veh) ((((ix s.res.chg ((cix s.res.chg key)).toNat))).time)).1) 0)])))), (105, .bt 69 [.un])]) rfl (og rfl (of_eff (op_takeBt 122 rfl Tryd.underlying69 rfl rfl rfl rfl rfl rfl) rfl)) rfl ?_
              refine rg_put (d := 4) (v := .ow 122) rfl (og rfl (op_assign rfl rfl rfl)) ?_
              refine rg_put (d := 5) (v := .d (.fl (.int .i64 0))) rfl (og rfl (op_assign rfl rfl rfl)) ?_
              refine rg_done rfl ?_
              refine a_imp (imp_leakT 4 122 rfl rfl) ?_
              refine a_ret ?_
              show ∃ ds, ResL _ _ _ ds ∧ RV.of ds = _
              refine ⟨[.sl 3 (List.map eFc ((([(Fc.mk ⟨#[99, 104, 97, 114, 103, 101]⟩ key 0)] ++ (cat gL (ix s.res.chg (cix s.res.chg key).toNat).lines (ix s.res.chg (cix s.res.chg key).toNat).lines.length)) ++ [(Fc.mk (⟨#[97, 99, 99, 111, 117, 110, 116]⟩) ((own s.cfg.acc ((((ix s.res.chg ((cix s.res.chg key)).toNat))).veh) ((((ix s.res.chg ((cix s.res.chg key)).toNat))).time)).1) 0)]))), .fl (.int .i64 0)], (.cons (.tmp rfl (.d _)) (.cons (.tmp rfl (.d _)) .nil)), ?_⟩
              have hu : chg s key = ((([(Fc.mk ⟨#[99, 104, 97, 114, 103, 101]⟩ key 0)] ++ (cat gL (ix s.res.chg (cix s.res.chg key).toNat).lines (ix s.res.chg (cix s.res.chg key).toNat).lines.length)) ++ [(Fc.mk (⟨#[97, 99, 99, 111, 117, 110, 116]⟩) ((own s.cfg.acc ((((ix s.res.chg ((cix s.res.chg key)).toNat))).veh) ((((ix s.res.chg ((cix s.res.chg key)).toNat))).time)).1) 0)]), 0) := by rw [chg_yes h1, tF_no h7, yF_no h19, aF_yes h25, pF_no h26]; try simp only [List.append_assoc, List.cons_append, List.nil_append, List.append_nil]
              rw [hu]; rfl
          · skip
            refine a_region ?_
            refine rg_put (d := 98) (v := .cl 33 [.p 105]) rfl (og rfl (op_move rfl rfl rfl)) ?_
            refine rg_put (d := 99) (v := .pt 104 1) rfl (og rfl (of_eff (s_field_pt rfl Tryd.underlying93 rfl ti9 rfl rfl rfl) rfl)) ?_
            refine rg_put (d := 100) (v := .d (.fl (.string ((((ix s.res.chg ((cix s.res.chg key)).toNat))).veh)))) rfl (og rfl (op_load_pt rfl Tryd.underlying9 rfl rfl rfl rfl rfl)) ?_
            refine rg_upd (d := 101) (v := .tu []) (nw := [(105, .bt 69 [.ow 81 3 (List.map eFc ((([(Fc.mk ⟨#[99, 104, 97, 114, 103, 101]⟩ key 0)] ++ (cat gL (ix s.res.chg (cix s.res.chg key).toNat).lines (ix s.res.chg (cix s.res.chg key).toNat).lines.length)) ++ [(Fc.mk (⟨#[118, 101, 104, 105, 99, 108, 101]⟩) ((((ix s.res.chg ((cix s.res.chg key)).toNat))).veh) 17)])))])]) rfl (og rfl (of_eff (op_callXV [105] (obs := [.bt 69 [.ow 81 3 (List.map eFc (([(Fc.mk ⟨#[99, 104, 97, 114, 103, 101]⟩ key 0)] ++ (cat gL (ix s.res.chg (cix s.res.chg key).toNat).lines (ix s.res.chg (cix s.res.chg key).toNat).lines.length))))]]) (obs' := [.bt 69 [.ow 81 3 (List.map eFc ((([(Fc.mk ⟨#[99, 104, 97, 114, 103, 101]⟩ key 0)] ++ (cat gL (ix s.res.chg (cix s.res.chg key).toNat).lines (ix s.res.chg (cix s.res.chg key).toNat).lines.length)) ++ [(Fc.mk (⟨#[118, 101, 104, 105, 99, 108, 101]⟩) ((((ix s.res.chg ((cix s.res.chg key)).toNat))).veh) 17)])))]]) (r := .tu []) rfl ⟨_, Tryd.func33, nm33, rfl⟩ rfl (.d rfl (.d _) (.d rfl (.d _) (.d rfl (.d _) .nil))) (.p 0 rfl .nil) rfl (And.intro rfl trivial) rfl rfl rfl (add33 (([(Fc.mk ⟨#[99, 104, 97, 114, 103, 101]⟩ key 0)] ++ (cat gL (ix s.res.chg (cix s.res.chg key).toNat).lines (ix s.res.chg (cix s.res.chg key).toNat).lines.length))) (⟨#[118, 101, 104, 105, 99, 108, 101]⟩) ((((ix s.res.chg ((cix s.res.chg key)).toNat))).veh) 17 (by simp only [List.length_append, List.length_cons, List.length_nil]; omega)) rfl) rfl)) ?_
            refine rg_done rfl ?_
            show A _ _ _ _ _ _ _
            refine a_seq ?_
            refine a_rseq ?_
            refine rg_put (d := 102) (v := .pt 101 35) rfl (og rfl (of_eff (s_field_pt rfl Tryd.underlying64 rfl ti61 rfl rfl rfl) rfl)) ?_
            refine rg_put (d := 103) (v := .pt 101 36) rfl (og rfl (of_eff (s_field_pt rfl Tryd.underlying61 rfl ti53 rfl rfl rfl) rfl)) ?_
            refine rg_put (d := 104) (v := .d (.sl 7 (List.map eCg s.books.done))) rfl (og rfl (op_load_pt rfl Tryd.underlying53 rfl rfl rfl rfl rfl)) ?_
            refine rg_put (d := 105) (v := .d (.fl (.string key))) rfl (og rfl (op_load_el rfl Tryd.underlying9 rfl rfl rfl rfl)) ?_
            refine rg_put (d := 106) (v := .d (.fl (.bool (hasK s.books.done key)))) rfl (og rfl (op_call rfl Tryd.func40 nm40 rfl (.cons rfl (.d _) (.cons rfl (.d _) .nil)) (hasK40 s.books.done key (by omega)) rfl)) ?_
            refine rg_done rfl ?_
            refine a_cond rfl (fun h27 => ?_) (fun h27 => ?_)
            · skip
              refine a_region ?_
              refine rg_put (d := 107) (v := .cl 33 [.p 105]) rfl (og rfl (op_move rfl rfl rfl)) ?_
              refine rg_put (d := 108) (v := .d (.fl (.string key))) rfl (og rfl (op_load_el rfl Tryd.underlying9 rfl rfl rfl rfl)) ?_
              refine rg_upd (d := 109) (v := .tu []) (nw := [(105, .bt 69 [.ow 81 3 (List.map eFc (((([(Fc.mk ⟨#[99, 104, 97, 114, 103, 101]⟩ key 0)] ++ (cat gL (ix s.res.chg (cix s.res.chg key).toNat).lines (ix s.res.chg (cix s.res.chg key).toNat).lines.length)) ++ [(Fc.mk (⟨#[118, 101, 104, 105, 99, 108, 101]⟩) ((((ix s.res.chg ((cix s.res.chg key)).toNat))).veh) 17)]) ++ [(Fc.mk (⟨#[112, 111, 115, 116, 101, 100]⟩) key 0)])))])]) rfl (og rfl (of_eff (op_callXV [105] (obs := [.bt 69 [.ow 81 3 (List.map eFc ((([(Fc.mk ⟨#[99, 104, 97, 114, 103, 101]⟩ key 0)] ++ (cat gL (ix s.res.chg (cix s.res.chg key).toNat).lines (ix s.res.chg (cix s.res.chg key).toNat).lines.length)) ++ [(Fc.mk (⟨#[118, 101, 104, 105, 99, 108, 101]⟩) ((((ix s.res.chg ((cix s.res.chg key)).toNat))).veh) 17)])))]]) (obs' := [.bt 69 [.ow 81 3 (List.map eFc (((([(Fc.mk ⟨#[99, 104, 97, 114, 103, 101]⟩ key 0)] ++ (cat gL (ix s.res.chg (cix s.res.chg key).toNat).lines (ix s.res.chg (cix s.res.chg key).toNat).lines.length)) ++ [(Fc.mk (⟨#[118, 101, 104, 105, 99, 108, 101]⟩) ((((ix s.res.chg ((cix s.res.chg key)).toNat))).veh) 17)]) ++ [(Fc.mk (⟨#[112, 111, 115, 116, 101, 100]⟩) key 0)])))]]) (r := .tu []) rfl ⟨_, Tryd.func33, nm33, rfl⟩ rfl (.d rfl (.d _) (.d rfl (.d _) (.d rfl (.d _) .nil))) (.p 0 rfl .nil) rfl (And.intro rfl trivial) rfl rfl rfl (add33 ((([(Fc.mk ⟨#[99, 104, 97, 114, 103, 101]⟩ key 0)] ++ (cat gL (ix s.res.chg (cix s.res.chg key).toNat).lines (ix s.res.chg (cix s.res.chg key).toNat).lines.length)) ++ [(Fc.mk (⟨#[118, 101, 104, 105, 99, 108, 101]⟩) ((((ix s.res.chg ((cix s.res.chg key)).toNat))).veh) 17)])) (⟨#[112, 111, 115, 116, 101, 100]⟩) key 0 (by simp only [List.length_append, List.length_cons, List.length_nil]; omega)) rfl) rfl)) ?_
              refine rg_done rfl ?_
              show A _ _ _ _ _ _ _
              refine a_rseq ?_
              refine rg_nam (d := 110) (v := .ow 123) (m := 123) (nw := [(123, .tr 81 3 (tD eFc (((([(Fc.mk ⟨#[99, 104, 97, 114, 103, 101]⟩ key 0)] ++ (cat gL (ix s.res.chg (cix s.res.chg key).toNat).lines (ix s.res.chg (cix s.res.chg key).toNat).lines.length)) ++ [(Fc.mk (⟨#[118, 101, 104, 105, 99, 108, 101]⟩) ((((ix s.res.chg ((cix s.res.chg key)).toNat))).veh) 17)]) ++ [(Fc.mk (⟨#[112, 111, 115, 116, 101, 100]⟩) key 0)])))), (105, .bt 69 [.un])]) rfl (og rfl (of_eff (op_takeBt 123 rfl Tryd.underlying69 rfl rfl rfl rfl rfl rfl) rfl)) rfl ?_
              refine rg_put (d := 4) (v := .ow 123) rfl (og rfl (op_assign rfl rfl rfl)) ?_
              refine rg_put (d := 5) (v := .d (.fl (.int .i64 0))) rfl (og rfl (op_assign rfl rfl rfl)) ?_
              refine rg_done rfl ?_
              refine a_imp (imp_leakT 4 123 rfl rfl) ?_
              refine a_ret ?_
              show ∃ ds, ResL _ _ _ ds ∧ RV.of ds = _
              refine ⟨[.sl 3 (List.map eFc (((([(Fc.mk ⟨#[99, 104, 97, 114, 103, 101]⟩ key 0)] ++ (cat gL (ix s.res.chg (cix s.res.chg key).toNat).lines (ix s.res.chg (cix s.res.chg key).toNat).lines.length)) ++ [(Fc.mk (⟨#[118, 101, 104, 105, 99, 108, 101]⟩) ((((ix s.res.chg ((cix s.res.chg key)).toNat))).veh) 17)]) ++ [(Fc.mk (⟨#[112, 111, 115, 116, 101, 100]⟩) key 0)]))), .fl (.int .i64 0)], (.cons (.tmp rfl (.d _)) (.cons (.tmp rfl (.d _)) .nil)), ?_⟩
              have hu : chg s key = (((([(Fc.mk ⟨#[99, 104, 97, 114, 103, 101]⟩ key 0)] ++ (cat gL (ix s.res.chg (cix s.res.chg key).toNat).lines (ix s.res.chg (cix s.res.chg key).toNat).lines.length)) ++ [(Fc.mk (⟨#[118, 101, 104, 105, 99, 108, 101]⟩) ((((ix s.res.chg ((cix s.res.chg key)).toNat))).veh) 17)]) ++ [(Fc.mk (⟨#[112, 111, 115, 116, 101, 100]⟩) key 0)]), 0) := by rw [chg_yes h1, tF_no h7, yF_no h19, aF_no h25, pF_yes h27]; try simp only [List.append_assoc, List.cons_append, List.nil_append, List.append_nil]
              rw [hu]; rfl
            · skip
              refine a_skip ?_
              show A _ _ _ _ _ _ _
              refine a_rseq ?_
              refine rg_nam (d := 110) (v := .ow 124) (m := 124) (nw := [(124, .tr 81 3 (tD eFc ((([(Fc.mk ⟨#[99, 104, 97, 114, 103, 101]⟩ key 0)] ++ (cat gL (ix s.res.chg (cix s.res.chg key).toNat).lines (ix s.res.chg (cix s.res.chg key).toNat).lines.length)) ++ [(Fc.mk (⟨#[118, 101, 104, 105, 99, 108, 101]⟩) ((((ix s.res.chg ((cix s.res.chg key)).toNat))).veh) 17)])))), (105, .bt 69 [.un])]) rfl (og rfl (of_eff (op_takeBt 124 rfl Tryd.underlying69 rfl rfl rfl rfl rfl rfl) rfl)) rfl ?_
              refine rg_put (d := 4) (v := .ow 124) rfl (og rfl (op_assign rfl rfl rfl)) ?_
              refine rg_put (d := 5) (v := .d (.fl (.int .i64 0))) rfl (og rfl (op_assign rfl rfl rfl)) ?_
              refine rg_done rfl ?_
              refine a_imp (imp_leakT 4 124 rfl rfl) ?_
              refine a_ret ?_
              show ∃ ds, ResL _ _ _ ds ∧ RV.of ds = _
              refine ⟨[.sl 3 (List.map eFc ((([(Fc.mk ⟨#[99, 104, 97, 114, 103, 101]⟩ key 0)] ++ (cat gL (ix s.res.chg (cix s.res.chg key).toNat).lines (ix s.res.chg (cix s.res.chg key).toNat).lines.length)) ++ [(Fc.mk (⟨#[118, 101, 104, 105, 99, 108, 101]⟩) ((((ix s.res.chg ((cix s.res.chg key)).toNat))).veh) 17)]))), .fl (.int .i64 0)], (.cons (.tmp rfl (.d _)) (.cons (.tmp rfl (.d _)) .nil)), ?_⟩
              have hu : chg s key = ((([(Fc.mk ⟨#[99, 104, 97, 114, 103, 101]⟩ key 0)] ++ (cat gL (ix s.res.chg (cix s.res.chg key).toNat).lines (ix s.res.chg (cix s.res.chg key).toNat).lines.length)) ++ [(Fc.mk (⟨#[118, 101, 104, 105, 99, 108, 101]⟩) ((((ix s.res.chg ((cix s.res.chg key)).toNat))).veh) 17)]), 0) := by rw [chg_yes h1, tF_no h7, yF_no h19, aF_no h25, pF_no h27]; try simp only [List.append_assoc, List.cons_append, List.nil_append, List.append_nil]
              rw [hu]; rfl
set_option maxHeartbeats 4000000 in
set_option maxRecDepth 100000 in
theorem chg15 (s : Sa) (key : ByteArray) (hs : okSt s) : Ctr Tryd.prog 15 [.ag (eSa s), .fl (.string key)] (.tu [.sl 3 (List.map eFc (chg s key).1), .fl (.int .i64 (chg s key).2)]) := by
  obtain ⟨hs1, hs2, hT, hs4, hs5, hs6⟩ := hs
  have hci := cix_in s.res.chg key
  refine ctr (n := 143) (rs := #[.tmp 4, .tmp 5]) (L := [(0, .d (.ag (eSa s))), (1, .d (.fl (.string key)))]) Tryd.func15 rfl rfl rfl rfl rfl (fun w0 U0 => ?_)
  refine a_rseq ?_
  refine rg_nam (d := 2) (v := .pt 101 0) (m := 101) (nw := [(101, .bx 64 (eSa s))]) rfl (og rfl (of_eff (op_box 101 rfl rfl rfl rfl) rfl)) rfl ?_
  refine rg_put (d := 4) (v := .d (.fl (.slice none 0 0))) rfl (og rfl (op_assign rfl rfl rfl)) ?_
  refine rg_put (d := 5) (v := .d (.fl (.int .i64 0))) rfl (og rfl (op_assign rfl rfl rfl)) ?_
  refine rg_done rfl ?_
  refine a_rseq ?_
  refine rg_put (d := 16) (v := .pt 101 29) rfl (og rfl (of_eff (s_field_pt rfl Tryd.underlying64 rfl ti56 rfl rfl rfl) rfl)) ?_
  refine rg_put (d := 17) (v := .d (.ag (eRs s.res))) rfl (og rfl (of_eff (s_load_pts rfl Tryd.underlying56 rfl ti56 rfl rfl rfl rfl) rfl)) ?_
  refine rg_nam (d := 6) (v := .pt 102 0) (m := 102) (nw := [(102, .bx 56 [.fl (.slice none 0 0), .fl (.slice none 0 0), .fl (.slice none 0 0), .fl (.slice none 0 0), .fl (.slice none 0 0), .fl (.slice none 0 0)])]) rfl (og rfl (of_eff (s_alloc 102 rfl ti56 (by kernel_rfl) rfl) rfl)) rfl ?_
  refine rg_sto (nw := [(102, .bx 56 (eRs s.res))]) rfl (og rfl (of_eff (s_store rfl rfl ti56 rfl rfl rfl rfl rfl rfl) rfl)) ?_
  refine rg_done rfl ?_
  refine a_rseq ?_
  refine rg_put (d := 18) (v := .pt 102 4) rfl (og rfl (of_eff (s_field_pt rfl Tryd.underlying56 rfl ti53 rfl rfl rfl) rfl)) ?_
  refine rg_put (d := 19) (v := .d (.sl 7 (List.map eCg s.res.chg))) rfl (og rfl (op_load_pt rfl Tryd.underlying53 rfl rfl rfl rfl rfl)) ?_
  refine rg_put (d := 20) (v := .d (.fl (.string key))) rfl (og rfl (op_move rfl rfl rfl)) ?_
  refine rg_put (d := 21) (v := .d (.fl (.int .i64 (cix s.res.chg key)))) rfl (og rfl (op_call rfl Tryd.func41 nm41 rfl (.cons rfl (.d _) (.cons rfl (.d _) .nil)) (cix41 s.res.chg key (by have := hT.2.2.1; omega)) rfl)) ?_
  refine rg_put (d := 7) (v := .d (.fl (.int .i64 (cix s.res.chg key)))) rfl (og rfl (op_assign rfl rfl rfl)) ?_
  refine rg_done rfl ?_
  refine a_seq ?_
  refine a_rseq ?_
  refine rg_put (d := 22) (v := .d (.fl (.int .i64 (cix s.res.chg key)))) rfl (og rfl (op_move rfl rfl rfl)) ?_
  refine rg_put (d := 23) (v := .d (.fl (.bool ((decide ((cix s.res.chg key) < 0)))))) rfl (og rfl (op_bin rfl rfl rfl (b_lss _ _ _ _) rfl)) ?_
  refine rg_done rfl ?_
  refine a_cond rfl (fun h1 => ?_) (fun h1 => ?_)
  · skip
    have h2 := t_dec h1
    refine a_rseq ?_
    refine rg_put (d := 4) (v := .d (.fl (.slice none 0 0))) rfl (og rfl (op_assign rfl rfl rfl)) ?_
    refine rg_put (d := 5) (v := .d (.fl (.int .i64 10))) rfl (og rfl (op_assign rfl rfl rfl)) ?_
    refine rg_done rfl ?_
    refine a_ret ?_
    show ∃ ds, ResL _ _ _ ds ∧ RV.of ds = _
    refine ⟨[.sl 3 (List.map eFc []), .fl (.int .i64 10)], (.cons (.tmp rfl (.cv (Cv.nil _))) (.cons (.tmp rfl (.d _)) .nil)), ?_⟩
    rw [chg_no h1]; rfl
  · skip
    have h3 := f_dec h1
    refine a_skip ?_
    show A _ _ _ _ _ _ _
    refine a_rseq ?_
    refine rg_put (d := 24) (v := .pt 102 4) rfl (og rfl (of_eff (s_field_pt rfl Tryd.underlying56 rfl ti53 rfl rfl rfl) rfl)) ?_
    refine rg_put (d := 25) (v := .d (.sl 7 (List.map eCg s.res.chg))) rfl (og rfl (op_load_pt rfl Tryd.underlying53 rfl rfl rfl rfl rfl)) ?_
    refine rg_put (d := 26) (v := .d (.fl (.int .i64 (cix s.res.chg key)))) rfl (og rfl (op_move rfl rfl rfl)) ?_
    refine rg_put (d := 27) (v := .el ((eCg ((ix s.res.chg ((cix s.res.chg key)).toNat))))) rfl (og rfl (s_index rfl Tryd.underlying53 ti93 rfl rfl (by omega) (row_atI (by omega) (by omega)) rfl)) ?_
    refine rg_put (d := 28) (v := .d (.ag (eCg (((ix s.res.chg ((cix s.res.chg key)).toNat)))))) rfl (og rfl (of_eff (s_load_els rfl Tryd.underlying93 rfl ti93 rfl rfl rfl) rfl)) ?_
    refine rg_nam (d := 8) (v := .pt 103 0) (m := 103) (nw := [(103, .bx 93 ([.fl (.string (⟨#[]⟩)), .fl (.string (⟨#[]⟩)), .fl (.string (⟨#[]⟩)), .fl (.int .i64 0), .fl (.int .i64 0), .fl (.slice none 0 0), .fl (.int .i64 0)]))]) rfl (og rfl (of_eff (s_alloc 103 rfl ti93 (by kernel_rfl) rfl) rfl)) rfl ?_
    refine rg_sto (nw := [(103, .bx 93 ((eCg (((ix s.res.chg ((cix s.res.chg key)).toNat))))))]) rfl (og rfl (of_eff (s_store rfl rfl ti93 rfl rfl rfl rfl rfl rfl) rfl)) ?_
    refine rg_done rfl ?_
    refine a_rseq ?_
    refine rg_put (d := 29) (v := .d (.fl (.string key))) rfl (og rfl (op_move rfl rfl rfl)) ?_
    refine rg_put (d := 30) (v := .d (.ag (eFc ((Fc.mk (⟨#[99, 104, 97, 114, 103, 101]⟩) key 0))))) rfl (og rfl (of_eff (op_build rfl Tryd.underlying81 ti81 rfl (by kernel_rfl) (by kernel_rfl) (pl := #[(0, 1), (1, 1), (2, 1)]) (by kernel_rfl) (.cons rfl rfl (.d _) rfl rfl rfl (.cons rfl rfl (.d _) rfl rfl rfl .nil)) rfl) rfl)) ?_
    refine rg_nam (d := 31) (v := .ow 104) (m := 104) (nw := [(104, .tr 81 3 (tD eFc ([(Fc.mk (⟨#[99, 104, 97, 114, 103, 101]⟩) key 0)])))]) rfl (og rfl (of_eff (of_eff (op_sliceB 104 rfl Tryd.underlying69 ti81 rfl rfl rfl (by kernel_rfl) (xs := [.ag (eFc ((Fc.mk (⟨#[99, 104, 97, 114, 103, 101]⟩) key 0)))]) rfl rfl (.cons rfl rfl (.d _) rfl rfl rfl .nil) rfl) rfl) rfl)) rfl ?_
    refine rg_put (d := 9) (v := .ow 104) rfl (og rfl (op_assign rfl rfl rfl)) ?_
    refine rg_done rfl ?_
    refine a_seq ?_
    refine a_rseq ?_
    refine rg_put (d := 10) (v := .d (.fl (.int .i64 0))) rfl (og rfl (op_assign rfl rfl rfl)) ?_
    refine rg_done rfl ?_
    refine a_block ?_
    refine a_loop (ι := Nat) (fun k => SS [(0, .d (.ag (eSa s))), (1, .d (.fl (.string key))), (2, .pt 101 0), (4, .d (.fl (.slice none 0 0))), (5, .d (.fl (.int .i64 0))), (6, .pt 102 0), (7, .d (.fl (.int .i64 (cix s.res.chg key)))), (8, .pt 103 0), (23, .d (.fl (.bool ((decide ((cix s.res.chg key) < 0)))))), (10, .d (.fl (.int .i64 (k : Int)))), (9, .ow 104)] [(101, .bx 64 (eSa s)), (102, .bx 56 (eRs s.res)), (103, .bx 93 ((eCg (((ix s.res.chg ((cix s.res.chg key)).toNat)))))), (104, .tr 81 3 (tD eFc (([(Fc.mk ⟨#[99, 104, 97, 114, 103, 101]⟩ key 0)] ++ (cat gL (ix s.res.chg (cix s.res.chg key).toNat).lines k)))))]) (fun k => k ≤ (ix s.res.chg (cix s.res.chg key).toNat).lines.length) (fun k => (ix s.res.chg (cix s.res.chg key).toNat).lines.length - k) 0 (by omega) (imp_forget rfl ⟨rfl, rfl, rfl, rfl, rfl, rfl, rfl, rfl, rfl, (by first | rfl | exact ci (by omega) | exact ci (by simp) | exact cd (by simp) | simp), (by first | rfl | exact ci (by omega) | exact ci (by simp) | exact cd (by simp) | simp), trivial⟩ ⟨rfl, rfl, rfl, rfl, trivial⟩) (fun k hok => ?_)
    have hk := hok
    have hc1 := cat_len (g := gL) (l := (ix s.res.chg (cix s.res.chg key).toNat).lines) (c := 1) (fun x _ => gL_len x) k hk
    have hll := hT.2.2.2.2.2.2.2.1 (cix s.res.chg key).toNat (by omega)
    refine a_seq ?_
    refine a_rseq ?_
    refine rg_put (d := 32) (v := .d (.fl (.int .i64 (k : Int)))) rfl (og rfl (op_move rfl rfl rfl)) ?_
    refine rg_put (d := 33) (v := .pt 103 5) rfl (og rfl (of_eff (s_field_pt rfl Tryd.underlying93 rfl ti91 rfl rfl rfl) rfl)) ?_
    refine rg_put (d := 34) (v := .d (.sl 2 (List.map eLn ((((ix s.res.chg ((cix s.res.chg key)).toNat))).lines)))) rfl (og rfl (op_load_pt rfl Tryd.underlying91 rfl rfl rfl rfl rfl)) ?_
    refine rg_put (d := 35) (v := .d (.fl (.int .i64 ((((((ix s.res.chg ((cix s.res.chg key)).toNat))).lines).length : Int))))) rfl (og rfl (s_len rfl Tryd.underlying91 rfl rfl)) ?_
    refine rg_put (d := 36) (v := .d (.fl (.bool ((decide ((k : Int) < (((((ix s.res.chg ((cix s.res.chg key)).toNat))).lines).length : Int))))))) rfl (og rfl (op_bin rfl rfl rfl (b_lss _ _ _ _) rfl)) ?_
    refine rg_done rfl ?_
    refine a_cond rfl (fun h4 => ?_) (fun h4 => ?_)
    · skip
      have h5 := t_dec h4
      refine a_skip ?_
      show A _ _ _ _ _ _ _
      refine a_seq ?_
      refine a_block ?_
      refine a_region ?_
      refine rg_put (d := 39) (v := .ow 104) rfl (og rfl (op_move rfl rfl rfl)) ?_
      refine rg_put (d := 40) (v := .pt 103 5) rfl (og rfl (of_eff (s_field_pt rfl Tryd.underlying93 rfl ti91 rfl rfl rfl) rfl)) ?_
      refine rg_put (d := 41) (v := .d (.sl 2 (List.map eLn ((((ix s.res.chg ((cix s.res.chg key)).toNat))).lines)))) rfl (og rfl (op_load_pt rfl Tryd.underlying91 rfl rfl rfl rfl rfl)) ?_
      refine rg_put (d := 42) (v := .d (.fl (.int .i64 (k : Int)))) rfl (og rfl (op_move rfl rfl rfl)) ?_
      refine rg_put (d := 43) (v := .el ((eLn ((ix ((((ix s.res.chg ((cix s.res.chg key)).toNat))).lines) k))))) rfl (og rfl (s_index rfl Tryd.underlying91 ti102 rfl rfl (by omega) (row_at (by omega)) rfl)) ?_
      refine rg_put (d := 44) (v := .el ((List.drop 0 ((eLn ((ix ((((ix s.res.chg ((cix s.res.chg key)).toNat))).lines) k))))))) rfl (og rfl (of_eff (s_field_el rfl Tryd.underlying102 rfl ti9 rfl rfl rfl) rfl)) ?_
      refine rg_put (d := 45) (v := .d (.fl (.string (((ix ((((ix s.res.chg ((cix s.res.chg key)).toNat))).lines) k)).text)))) rfl (og rfl (op_load_el rfl Tryd.underlying9 rfl rfl rfl rfl)) ?_
      refine rg_put (d := 46) (v := .d (.ag (eFc ((Fc.mk (⟨#[108, 105, 110, 101]⟩) (((ix ((((ix s.res.chg ((cix s.res.chg key)).toNat))).lines) k)).text) 0))))) rfl (og rfl (of_eff (op_build rfl Tryd.underlying81 ti81 rfl (by kernel_rfl) (by kernel_rfl) (pl := #[(0, 1), (1, 1), (2, 1)]) (by kernel_rfl) (.cons rfl rfl (.d _) rfl rfl rfl (.cons rfl rfl (.d _) rfl rfl rfl .nil)) rfl) rfl)) ?_
      refine rg_put (d := 47) (v := .d (.sl 3 (List.map eFc ([(Fc.mk (⟨#[108, 105, 110, 101]⟩) (((ix ((((ix s.res.chg ((cix s.res.chg key)).toNat))).lines) k)).text) 0)])))) rfl (og rfl (of_eff (op_slices rfl Tryd.underlying69 ti81 rfl rfl rfl (by kernel_rfl) (xs := [.ag (eFc ((Fc.mk (⟨#[108, 105, 110, 101]⟩) (((ix ((((ix s.res.chg ((cix s.res.chg key)).toNat))).lines) k)).text) 0)))]) rfl rfl (.cons rfl rfl (.d _) rfl rfl rfl .nil) rfl) rfl)) ?_
      refine rg_nam (d := 48) (v := .ow 105) (m := 105) (nw := [(105, .tr 81 3 (tD eFc ((([(Fc.mk ⟨#[99, 104, 97, 114, 103, 101]⟩ key 0)] ++ (cat gL (ix s.res.chg (cix s.res.chg key).toNat).lines k)) ++ [(Fc.mk (⟨#[108, 105, 110, 101]⟩) (((ix ((((ix s.res.chg ((cix s.res.chg key)).toNat))).lines) k)).text) 0)])))), (104, .no)]) rfl (og rfl (of_eff (s_append_td 105 rfl Tryd.underlying69 ti81 rfl rfl rfl rfl rfl (.d _) (by simp only [List.length_append, List.length_cons, List.length_nil]; omega) rfl) rfl)) rfl ?_
      refine rg_put (d := 9) (v := .ow 105) rfl (og rfl (op_assign rfl rfl rfl)) ?_
      refine rg_done rfl ?_
      show A _ _ _ _ _ _ _
      refine a_region ?_
      refine rg_put (d := 37) (v := .d (.fl (.int .i64 (k : Int)))) rfl (og rfl (op_move rfl rfl rfl)) ?_
      refine rg_put (d := 38) (v := .d (.fl (.int .i64 (((k : Int) + 1))))) rfl (og rfl (op_bin rfl rfl rfl (fun x y w => b_add64 _ _ _ x y w (by omega)) rfl)) ?_
      refine rg_put (d := 10) (v := .d (.fl (.int .i64 (((k : Int) + 1))))) rfl (og rfl (op_assign rfl rfl rfl)) ?_
      refine rg_done rfl ?_
      have hg : gL (ix (ix s.res.chg (cix s.res.chg key).toNat).lines k) = [Fc.mk ⟨#[108, 105, 110, 101]⟩ (ix (ix s.res.chg (cix s.res.chg key).toNat).lines k).text 0] := rfl
      show ∃ i, _ ∧ _ ∧ Imp _ _ _ _ _
      refine ⟨k + 1, (by omega), by omega, imp_ren (fun m => bif Nat.beq m 104 then 105 else m) rfl ⟨rfl, rfl, rfl, rfl, rfl, rfl, rfl, rfl, rfl, (by first | rfl | exact ci (by omega) | exact ci (by simp) | exact cd (by simp) | simp), rfl, trivial⟩ ⟨rfl, rfl, rfl, (congrArg (fun z => Ob.tr 81 3 (tD eFc z)) (cat_eq hg rfl)), trivial⟩⟩
    · skip
      have h6 := f_dec h4
      refine a_exit ?_
      show A _ _ _ _ _ _ _
      refine a_rseq ?_
      have hkl : k = (ix s.res.chg (cix s.res.chg key).toNat).lines.length := by omega
      rw [show (cat gL (ix s.res.chg (cix s.res.chg key).toNat).lines k) = (cat gL (ix s.res.chg (cix s.res.chg key).toNat).lines (ix s.res.chg (cix s.res.chg key).toNat).lines.length) from by rw [hkl]]
      have hll := hT.2.2.2.2.2.2.2.1 (cix s.res.chg key).toNat (by omega)
      have hc1 := cat_len (g := gL) (l := (ix s.res.chg (cix s.res.chg key).toNat).lines) (c := 1) (fun x _ => gL_len x) (ix s.res.chg (cix s.res.chg key).toNat).lines.length (Nat.le_refl _)
      have htx := tix_in s.res key
      have hsx := six_in s.res key
      refine rg_put (d := 11) (v := .d (.fl (.bool false))) rfl (og rfl (op_assign rfl rfl rfl)) ?_
      refine rg_done rfl ?_
      refine a_seq ?_
      refine a_rseq ?_
      refine rg_put (d := 12) (v := .d (.fl (.int .i64 0))) rfl (og rfl (op_assign rfl rfl rfl)) ?_
      refine rg_done rfl ?_
      refine a_block ?_
      refine a_loop (ι := Nat × Bool) (fun i => SS [(0, .d (.ag (eSa s))), (1, .d (.fl (.string key))), (2, .pt 101 0), (4, .d (.fl (.slice none 0 0))), (5, .d (.fl (.int .i64 0))), (6, .pt 102 0), (7, .d (.fl (.int .i64 (cix s.res.chg key)))), (8, .pt 103 0), (10, .d (.fl (.int .i64 (k : Int)))), (23, .d (.fl (.bool ((decide ((cix s.res.chg key) < 0)))))), (36, .d (.fl (.bool ((decide ((k : Int) < (((((ix s.res.chg ((cix s.res.chg key)).toNat))).lines).length : Int))))))), (12, .d (.fl (.int .i64 (i.1 : Int)))), (11, .d (.fl (.bool i.2))), (9, .ow 104)] [(101, .bx 64 (eSa s)), (102, .bx 56 (eRs s.res)), (103, .bx 93 ((eCg (((ix s.res.chg ((cix s.res.chg key)).toNat)))))), (104, .tr 81 3 (tD eFc ((([(Fc.mk ⟨#[99, 104, 97, 114, 103, 101]⟩ key 0)] ++ (cat gL (ix s.res.chg (cix s.res.chg key).toNat).lines (ix s.res.chg (cix s.res.chg key).toNat).lines.length)) ++ (tB s.res key i.2)))))]) (fun i => i.1 ≤ s.res.trips.length ∧ (i.2 = false → ∀ q, q < i.1 → sEq (tk (ix s.res.trips q).id) key = false)) (fun i => s.res.trips.length - i.1) (0, false) (⟨by show 0 ≤ _; omega, fun _ q h => absurd h (Nat.not_lt_zero q)⟩) (imp_forget rfl ⟨rfl, rfl, rfl, rfl, rfl, rfl, rfl, rfl, rfl, rfl, rfl, rfl, rfl, (by first | rfl | exact ci (by omega) | exact ci (by simp) | exact cd (by simp) | simp), trivial⟩ ⟨rfl, rfl, rfl, (congrArg (fun z => Ob.tr 81 3 (tD eFc z)) (List.append_nil _).symm), trivial⟩) (fun i hok => ?_)
      have hk1 := hok.1
      have htl := tB_len (r := s.res) (key := key) (b := i.2) hT
      have htr := hT.1
      have hll := hT.2.2.2.2.2.2.2.1 (cix s.res.chg key).toNat (by omega)
      have hc1 := cat_len (g := gL) (l := (ix s.res.chg (cix s.res.chg key).toNat).lines) (c := 1) (fun x _ => gL_len x) (ix s.res.chg (cix s.res.chg key).toNat).lines.length (Nat.le_refl _)
      refine a_seq ?_
      refine a_rseq ?_
      refine rg_put (d := 49) (v := .d (.fl (.int .i64 (i.1 : Int)))) rfl (og rfl (op_move rfl rfl rfl)) ?_
      refine rg_put (d := 50) (v := .pt 102 2) rfl (og rfl (of_eff (s_field_pt rfl Tryd.underlying56 rfl ti51 rfl rfl rfl) rfl)) ?_
      refine rg_put (d := 51) (v := .d (.sl 5 (List.map eTp s.res.trips))) rfl (og rfl (op_load_pt rfl Tryd.underlying51 rfl rfl rfl rfl rfl)) ?_
      refine rg_put (d := 52) (v := .d (.fl (.int .i64 (s.res.trips.length : Int)))) rfl (og rfl (s_len rfl Tryd.underlying51 rfl rfl)) ?_
      refine rg_put (d := 53) (v := .d (.fl (.bool ((decide ((i.1 : Int) < (s.res.trips.length : Int))))))) rfl (og rfl (op_bin rfl rfl rfl (b_lss _ _ _ _) rfl)) ?_
      refine rg_put (d := 54) (v := .d (.fl (.bool ((decide ((i.1 : Int) < (s.res.trips.length : Int))))))) rfl (og rfl (op_move rfl rfl rfl)) ?_
      rcases fot ((decide ((i.1 : Int) < (s.res.trips.length : Int)))) with h7 | h7
      · skip
        have h8 := f_dec h7
        refine rg_put (d := 55) (v := .d (.fl undef)) rfl (on rfl rfl rfl h7) ?_
        refine rg_put (d := 56) (v := .d (.fl undef)) rfl (on rfl rfl rfl h7) ?_
        refine rg_put (d := 57) (v := .d (.fl (.bool false))) rfl (og rfl (op_pick rfl rfl (by rw [h7]; rfl) rfl)) ?_
        refine rg_done rfl ?_
        refine a_condF rfl rfl ?_
        refine a_exit ?_
        show A _ _ _ _ _ _ _
        refine a_rseq ?_
        have ht : tB s.res key i.2 = tF s.res key := tB_end (fun hf q h => hok.2 hf q (by omega))
        rw [show (tB s.res key i.2) = (tF s.res key) from ht]
        have htl := tF_len (r := s.res) (key := key) hT
        have hyl := yF_len (r := s.res) (key := key)
        refine rg_put (d := 11) (v := .d (.fl (.bool false))) rfl (og rfl (op_assign rfl rfl rfl)) ?_
        refine rg_done rfl ?_
        refine a_seq ?_
        refine a_rseq ?_
        refine rg_put (d := 13) (v := .d (.fl (.int .i64 0))) rfl (og rfl (op_assign rfl rfl rfl)) ?_
        refine rg_done rfl ?_
        refine a_block ?_
        refine a_loop (ι := Nat × Bool) (fun p => SS [(0, .d (.ag (eSa s))), (1, .d (.fl (.string key))), (2, .pt 101 0), (4, .d (.fl (.slice none 0 0))), (5, .d (.fl (.int .i64 0))), (6, .pt 102 0), (7, .d (.fl (.int .i64 (cix s.res.chg key)))), (8, .pt 103 0), (10, .d (.fl (.int .i64 (k : Int)))), (12, .d (.fl (.int .i64 (i.1 : Int)))), (23, .d (.fl (.bool ((decide ((cix s.res.chg key) < 0)))))), (36, .d (.fl (.bool ((decide ((k : Int) < (((((ix s.res.chg ((cix s.res.chg key)).toNat))).lines).length : Int))))))), (57, .d (.fl (.bool false))), (13, .d (.fl (.int .i64 (p.1 : Int)))), (11, .d (.fl (.bool p.2))), (9, .ow 104)] [(101, .bx 64 (eSa s)), (102, .bx 56 (eRs s.res)), (103, .bx 93 ((eCg (((ix s.res.chg ((cix s.res.chg key)).toNat)))))), (104, .tr 81 3 (tD eFc (((([(Fc.mk ⟨#[99, 104, 97, 114, 103, 101]⟩ key 0)] ++ (cat gL (ix s.res.chg (cix s.res.chg key).toNat).lines (ix s.res.chg (cix s.res.chg key).toNat).lines.length)) ++ (tF s.res key)) ++ (yB s.res key p.2)))))]) (fun p => p.1 ≤ s.res.stays.length ∧ (p.2 = false → ∀ q, q < p.1 → sEq (pk (ix s.res.stays q).id) key = false)) (fun p => s.res.stays.length - p.1) (0, false) (⟨by show 0 ≤ _; omega, fun _ q h => absurd h (Nat.not_lt_zero q)⟩) (imp_forget rfl ⟨rfl, rfl, rfl, rfl, rfl, rfl, rfl, rfl, rfl, rfl, rfl, rfl, rfl, rfl, rfl, (by first | rfl | exact ci (by omega) | exact ci (by simp) | exact cd (by simp) | simp), trivial⟩ ⟨rfl, rfl, rfl, (congrArg (fun z => Ob.tr 81 3 (tD eFc z)) (List.append_nil _).symm), trivial⟩) (fun p hok => ?_)
        have hk1 := hok.1
        have htl := tF_len (r := s.res) (key := key) hT
        have hyl := yB_len (r := s.res) (key := key) (b := p.2)
        have hys := hT.2.2.2.2.1
        have hll := hT.2.2.2.2.2.2.2.1 (cix s.res.chg key).toNat (by omega)
        have hc1 := cat_len (g := gL) (l := (ix s.res.chg (cix s.res.chg key).toNat).lines) (c := 1) (fun x _ => gL_len x) (ix s.res.chg (cix s.res.chg key).toNat).lines.length (Nat.le_refl _)
        refine a_seq ?_
        refine a_rseq ?_
        refine rg_put (d := 78) (v := .d (.fl (.int .i64 (p.1 : Int)))) rfl (og rfl (op_move rfl rfl rfl)) ?_
        refine rg_put (d := 79) (v := .pt 102 3) rfl (og rfl (of_eff (s_field_pt rfl Tryd.underlying56 rfl ti52 rfl rfl rfl) rfl)) ?_
        refine rg_put (d := 80) (v := .d (.sl 5 (List.map eSy s.res.stays))) rfl (og rfl (op_load_pt rfl Tryd.underlying52 rfl rfl rfl rfl rfl)) ?_
        refine rg_put (d := 81) (v := .d (.fl (.int .i64 (s.res.stays.length : Int)))) rfl (og rfl (s_len rfl Tryd.underlying52 rfl rfl)) ?_
        refine rg_put (d := 82) (v := .d (.fl (.bool ((decide ((p.1 : Int) < (s.res.stays.length : Int))))))) rfl (og rfl (op_bin rfl rfl rfl (b_lss _ _ _ _) rfl)) ?_
        refine rg_put (d := 83) (v := .d (.fl (.bool ((decide ((p.1 : Int) < (s.res.stays.length : Int))))))) rfl (og rfl (op_move rfl rfl rfl)) ?_
        rcases fot ((decide ((p.1 : Int) < (s.res.stays.length : Int)))) with h9 | h9
        · skip
          have h10 := f_dec h9
          refine rg_put (d := 84) (v := .d (.fl undef)) rfl (on rfl rfl rfl h9) ?_
          refine rg_put (d := 85) (v := .d (.fl undef)) rfl (on rfl rfl rfl h9) ?_
          refine rg_put (d := 86) (v := .d (.fl (.bool false))) rfl (og rfl (op_pick rfl rfl (by rw [h9]; rfl) rfl)) ?_
          refine rg_done rfl ?_
          refine a_condF rfl rfl ?_
          refine a_exit ?_
          show A _ _ _ _ _ _ _
          refine a_rseq ?_
          have ht : yB s.res key p.2 = yF s.res key := yB_end (fun hf q h => hok.2 hf q (by omega))
          rw [show (yB s.res key p.2) = (yF s.res key) from ht]
          have htl := tF_len (r := s.res) (key := key) hT
          have hyl := yF_len (r := s.res) (key := key)
          refine rg_put (d := 109) (v := .pt 101 0) rfl (og rfl (of_eff (s_field_pt rfl Tryd.underlying64 rfl ti46 rfl rfl rfl) rfl)) ?_
          refine rg_put (d := 110) (v := .pt 101 17) rfl (og rfl (of_eff (s_field_pt rfl Tryd.underlying46 rfl ti40 rfl rfl rfl) rfl)) ?_
          refine rg_put (d := 111) (v := .d (.sl 9 (List.map eAc s.cfg.acc))) rfl (og rfl (op_load_pt rfl Tryd.underlying40 rfl rfl rfl rfl rfl)) ?_
          refine rg_put (d := 112) (v := .pt 103 1) rfl (og rfl (of_eff (s_field_pt rfl Tryd.underlying93 rfl ti9 rfl rfl rfl) rfl)) ?_
          refine rg_put (d := 113) (v := .d (.fl (.string ((((ix s.res.chg ((cix s.res.chg key)).toNat))).veh)))) rfl (og rfl (op_load_pt rfl Tryd.underlying9 rfl rfl rfl rfl rfl)) ?_
          refine rg_put (d := 114) (v := .pt 103 4) rfl (og rfl (of_eff (s_field_pt rfl Tryd.underlying93 rfl ti3 rfl rfl rfl) rfl)) ?_
          refine rg_put (d := 115) (v := .d (.fl (.int .i64 ((((ix s.res.chg ((cix s.res.chg key)).toNat))).time)))) rfl (og rfl (op_load_pt rfl Tryd.underlying3 rfl rfl rfl rfl rfl)) ?_
          refine rg_put (d := 116) (v := .tu [.fl (.string ((own s.cfg.acc ((((ix s.res.chg ((cix s.res.chg key)).toNat))).veh) ((((ix s.res.chg ((cix s.res.chg key)).toNat))).time)).1)), .fl (.bool ((own s.cfg.acc ((((ix s.res.chg ((cix s.res.chg key)).toNat))).veh) ((((ix s.res.chg ((cix s.res.chg key)).toNat))).time)).2))]) rfl (og rfl (op_call rfl Tryd.func43 nm43 rfl (.cons rfl (.d _) (.cons rfl (.d _) (.cons rfl (.d _) .nil))) (own43 s.cfg.acc ((((ix s.res.chg ((cix s.res.chg key)).toNat))).veh) ((((ix s.res.chg ((cix s.res.chg key)).toNat))).time) (by omega) hs5) rfl)) ?_
          refine rg_put (d := 108) (v := .tu [.fl (.string ((own s.cfg.acc ((((ix s.res.chg ((cix s.res.chg key)).toNat))).veh) ((((ix s.res.chg ((cix s.res.chg key)).toNat))).time)).1)), .fl (.bool ((own s.cfg.acc ((((ix s.res.chg ((cix s.res.chg key)).toNat))).veh) ((((ix s.res.chg ((cix s.res.chg key)).toNat))).time)).2))]) rfl (og rfl (op_move rfl rfl rfl)) ?_
          refine rg_put (d := 117) (v := .d (.fl (.string ((own s.cfg.acc ((((ix s.res.chg ((cix s.res.chg key)).toNat))).veh) ((((ix s.res.chg ((cix s.res.chg key)).toNat))).time)).1)))) rfl (og rfl (op_extract rfl rfl rfl rfl)) ?_
          refine rg_put (d := 118) (v := .d (.fl (.bool ((own s.cfg.acc ((((ix s.res.chg ((cix s.res.chg key)).toNat))).veh) ((((ix s.res.chg ((cix s.res.chg key)).toNat))).time)).2)))) rfl (og rfl (op_extract rfl rfl rfl rfl)) ?_
          refine rg_put (d := 14) (v := .d (.fl (.string ((own s.cfg.acc ((((ix s.res.chg ((cix s.res.chg key)).toNat))).veh) ((((ix s.res.chg ((cix s.res.chg key)).toNat))).time)).1)))) rfl (og rfl (op_assign rfl rfl rfl)) ?_
          refine rg_put (d := 15) (v := .d (.fl (.bool ((own s.cfg.acc ((((ix s.res.chg ((cix s.res.chg key)).toNat))).veh) ((((ix s.res.chg ((cix s.res.chg key)).toNat))).time)).2)))) rfl (og rfl (op_assign rfl rfl rfl)) ?_
          refine rg_done rfl ?_
          refine a_seq ?_
          refine a_rseq ?_
          refine rg_put (d := 119) (v := .d (.fl (.bool ((own s.cfg.acc ((((ix s.res.chg ((cix s.res.chg key)).toNat))).veh) ((((ix s.res.chg ((cix s.res.chg key)).toNat))).time)).2)))) rfl (og rfl (op_move rfl rfl rfl)) ?_
          refine rg_done rfl ?_
          refine a_cond rfl (fun h11 => ?_) (fun h11 => ?_)
          · skip
            refine a_region ?_
            refine rg_put (d := 120) (v := .ow 104) rfl (og rfl (op_move rfl rfl rfl)) ?_
            refine rg_put (d := 121) (v := .d (.fl (.string ((own s.cfg.acc ((((ix s.res.chg ((cix s.res.chg key)).toNat))).veh) ((((ix s.res.chg ((cix s.res.chg key)).toNat))).time)).1)))) rfl (og rfl (op_move rfl rfl rfl)) ?_
            refine rg_put (d := 122) (v := .d (.ag (eFc ((Fc.mk (⟨#[97, 99, 99, 111, 117, 110, 116]⟩) ((own s.cfg.acc ((((ix s.res.chg ((cix s.res.chg key)).toNat))).veh) ((((ix s.res.chg ((cix s.res.chg key)).toNat))).time)).1) 0))))) rfl (og rfl (of_eff (op_build rfl Tryd.underlying81 ti81 rfl (by kernel_rfl) (by kernel_rfl) (pl := #[(0, 1), (1, 1), (2, 1)]) (by kernel_rfl) (.cons rfl rfl (.d _) rfl rfl rfl (.cons rfl rfl (.d _) rfl rfl rfl .nil)) rfl) rfl)) ?_
            refine rg_put (d := 123) (v := .d (.sl 3 (List.map eFc ([(Fc.mk (⟨#[97, 99, 99, 111, 117, 110, 116]⟩) ((own s.cfg.acc ((((ix s.res.chg ((cix s.res.chg key)).toNat))).veh) ((((ix s.res.chg ((cix s.res.chg key)).toNat))).time)).1) 0)])))) rfl (og rfl (of_eff (op_slices rfl Tryd.underlying69 ti81 rfl rfl rfl (by kernel_rfl) (xs := [.ag (eFc ((Fc.mk (⟨#[97, 99, 99, 111, 117, 110, 116]⟩) ((own s.cfg.acc ((((ix s.res.chg ((cix s.res.chg key)).toNat))).veh) ((((ix s.res.chg ((cix s.res.chg key)).toNat))).time)).1) 0)))]) rfl rfl (.cons rfl rfl (.d _) rfl rfl rfl .nil) rfl) rfl)) ?_
            refine rg_nam (d := 124) (v := .ow 106) (m := 106) (nw := [(106, .tr 81 3 (tD eFc ((((([(Fc.mk ⟨#[99, 104, 97, 114, 103, 101]⟩ key 0)] ++ (cat gL (ix s.res.chg (cix s.res.chg key).toNat).lines (ix s.res.chg (cix s.res.chg key).toNat).lines.length)) ++ (tF s.res key)) ++ (yF s.res key)) ++ [(Fc.mk (⟨#[97, 99, 99, 111, 117, 110, 116]⟩) ((own s.cfg.acc ((((ix s.res.chg ((cix s.res.chg key)).toNat))).veh) ((((ix s.res.chg ((cix s.res.chg key)).toNat))).time)).1) 0)])))), (104, .no)]) rfl (og rfl (of_eff (s_append_td 106 rfl Tryd.underlying69 ti81 rfl rfl rfl rfl rfl (.d _) (by simp only [List.length_append, List.length_cons, List.length_nil]; omega) rfl) rfl)) rfl ?_
            refine rg_put (d := 9) (v := .ow 106) rfl (og rfl (op_assign rfl rfl rfl)) ?_
            refine rg_done rfl ?_
            show A _ _ _ _ _ _ _
            refine a_seq ?_
            refine a_rseq ?_
            refine rg_put (d := 131) (v := .pt 101 35) rfl (og rfl (of_eff (s_field_pt rfl Tryd.underlying64 rfl ti61 rfl rfl rfl) rfl)) ?_
            refine rg_put (d := 132) (v := .pt 101 36) rfl (og rfl (of_eff (s_field_pt rfl Tryd.underlying61 rfl ti53 rfl rfl rfl) rfl)) ?_
            refine rg_put (d := 133) (v := .d (.sl 7 (List.map eCg s.books.done))) rfl (og rfl (op_load_pt rfl Tryd.underlying53 rfl rfl rfl rfl rfl)) ?_
            refine rg_put (d := 134) (v := .d (.fl (.string key))) rfl (og rfl (op_move rfl rfl rfl)) ?_
            refine rg_put (d := 135) (v := .d (.fl (.int .i64 (cix s.books.done key)))) rfl (og rfl (op_call rfl Tryd.func41 nm41 rfl (.cons rfl (.d _) (.cons rfl (.d _) .nil)) (cix41 s.books.done key (by have := hT.2.2.1; omega)) rfl)) ?_
            refine rg_put (d := 136) (v := .d (.fl (.bool ((decide (0 ≤ (cix s.books.done key))))))) rfl (og rfl (op_bin rfl rfl rfl (b_geq _ _ _ _) rfl)) ?_
            refine rg_done rfl ?_
            refine a_cond rfl (fun h12 => ?_) (fun h12 => ?_)
            · skip
              have h13 := t_dec h12
              refine a_region ?_
              refine rg_put (d := 137) (v := .ow 106) rfl (og rfl (op_move rfl rfl rfl)) ?_
              refine rg_put (d := 138) (v := .d (.fl (.string key))) rfl (og rfl (op_move rfl rfl rfl)) ?_
              refine rg_put (d := 139) (v := .d (.ag (eFc ((Fc.mk (⟨#[112, 111, 115, 116, 101, 100]⟩) key 0))))) rfl (og rfl (of_eff (op_build rfl Tryd.underlying81 ti81 rfl (by kernel_rfl) (by kernel_rfl) (pl := #[(0, 1), (1, 1), (2, 1)]) (by kernel_rfl) (.cons rfl rfl (.d _) rfl rfl rfl (.cons rfl rfl (.d _) rfl rfl rfl .nil)) rfl) rfl)) ?_
              refine rg_put (d := 140) (v := .d (.sl 3 (List.map eFc ([(Fc.mk (⟨#[112, 111, 115, 116, 101, 100]⟩) key 0)])))) rfl (og rfl (of_eff (op_slices rfl Tryd.underlying69 ti81 rfl rfl rfl (by kernel_rfl) (xs := [.ag (eFc ((Fc.mk (⟨#[112, 111, 115, 116, 101, 100]⟩) key 0)))]) rfl rfl (.cons rfl rfl (.d _) rfl rfl rfl .nil) rfl) rfl)) ?_
              refine rg_nam (d := 141) (v := .ow 107) (m := 107) (nw := [(107, .tr 81 3 (tD eFc (((((([(Fc.mk ⟨#[99, 104, 97, 114, 103, 101]⟩ key 0)] ++ (cat gL (ix s.res.chg (cix s.res.chg key).toNat).lines (ix s.res.chg (cix s.res.chg key).toNat).lines.length)) ++ (tF s.res key)) ++ (yF s.res key)) ++ [(Fc.mk (⟨#[97, 99, 99, 111, 117, 110, 116]⟩) ((own s.cfg.acc ((((ix s.res.chg ((cix s.res.chg key)).toNat))).veh) ((((ix s.res.chg ((cix s.res.chg key)).toNat))).time)).1) 0)]) ++ [(Fc.mk (⟨#[112, 111, 115, 116, 101, 100]⟩) key 0)])))), (106, .no)]) rfl (og rfl (of_eff (s_append_td 107 rfl Tryd.underlying69 ti81 rfl rfl rfl rfl rfl (.d _) (by simp only [List.length_append, List.length_cons, List.length_nil]; omega) rfl) rfl)) rfl ?_
              refine rg_put (d := 9) (v := .ow 107) rfl (og rfl (op_assign rfl rfl rfl)) ?_
              refine rg_done rfl ?_
              show A _ _ _ _ _ _ _
              refine a_rseq ?_
              refine rg_put (d := 142) (v := .ow 107) rfl (og rfl (op_move rfl rfl rfl)) ?_
              refine rg_put (d := 4) (v := .ow 107) rfl (og rfl (op_assign rfl rfl rfl)) ?_
              refine rg_put (d := 5) (v := .d (.fl (.int .i64 0))) rfl (og rfl (op_assign rfl rfl rfl)) ?_
              refine rg_done rfl ?_
              refine a_imp (imp_leakT 4 107 rfl rfl) ?_
              refine a_ret ?_
              show ∃ ds, ResL _ _ _ ds ∧ RV.of ds = _
              refine ⟨[.sl 3 (List.map eFc (((((([(Fc.mk ⟨#[99, 104, 97, 114, 103, 101]⟩ key 0)] ++ (cat gL (ix s.res.chg (cix s.res.chg key).toNat).lines (ix s.res.chg (cix s.res.chg key).toNat).lines.length)) ++ (tF s.res key)) ++ (yF s.res key)) ++ [(Fc.mk (⟨#[97, 99, 99, 111, 117, 110, 116]⟩) ((own s.cfg.acc ((((ix s.res.chg ((cix s.res.chg key)).toNat))).veh) ((((ix s.res.chg ((cix s.res.chg key)).toNat))).time)).1) 0)]) ++ [(Fc.mk (⟨#[112, 111, 115, 116, 101, 100]⟩) key 0)]))), .fl (.int .i64 0)], (.cons (.tmp rfl (.d _)) (.cons (.tmp rfl (.d _)) .nil)), ?_⟩
              have hu : chg s key = (((((([(Fc.mk ⟨#[99, 104, 97, 114, 103, 101]⟩ key 0)] ++ (cat gL (ix s.res.chg (cix s.res.chg key).toNat).lines (ix s.res.chg (cix s.res.chg key).toNat).lines.length)) ++ (tF s.res key)) ++ (yF s.res key)) ++ [(Fc.mk (⟨#[97, 99, 99, 111, 117, 110, 116]⟩) ((own s.cfg.acc ((((ix s.res.chg ((cix s.res.chg key)).toNat))).veh) ((((ix s.res.chg ((cix s.res.chg key)).toNat))).time)).1) 0)]) ++ [(Fc.mk (⟨#[112, 111, 115, 116, 101, 100]⟩) key 0)]), 0) := by rw [chg_yes h1, aF_yes h11, pF_yes (hasK_of h12)]; try simp only [List.append_assoc, List.cons_append, List.nil_append, List.append_nil]
              rw [hu]; rfl
            · skip
              have h14 := f_dec h12
              refine a_skip ?_
              show A _ _ _ _ _ _ _
              refine a_rseq ?_
              refine rg_put (d := 142) (v := .ow 106) rfl (og rfl (op_move rfl rfl rfl)) ?_
              refine rg_put (d := 4) (v := .ow 106) rfl (og rfl (op_assign rfl rfl rfl)) ?_
              refine rg_put (d := 5) (v := .d (.fl (.int .i64 0))) rfl (og rfl (op_assign rfl rfl rfl)) ?_
              refine rg_done rfl ?_
              refine a_imp (imp_leakT 4 106 rfl rfl) ?_
              refine a_ret ?_
              show ∃ ds, ResL _ _ _ ds ∧ RV.of ds = _
              refine ⟨[.sl 3 (List.map eFc ((((([(Fc.mk ⟨#[99, 104, 97, 114, 103, 101]⟩ key 0)] ++ (cat gL (ix s.res.chg (cix s.res.chg key).toNat).lines (ix s.res.chg (cix s.res.chg key).toNat).lines.length)) ++ (tF s.res key)) ++ (yF s.res key)) ++ [(Fc.mk (⟨#[97, 99, 99, 111, 117, 110, 116]⟩) ((own s.cfg.acc ((((ix s.res.chg ((cix s.res.chg key)).toNat))).veh) ((((ix s.res.chg ((cix s.res.chg key)).toNat))).time)).1) 0)]))), .fl (.int .i64 0)], (.cons (.tmp rfl (.d _)) (.cons (.tmp rfl (.d _)) .nil)), ?_⟩
              have hu : chg s key = ((((([(Fc.mk ⟨#[99, 104, 97, 114, 103, 101]⟩ key 0)] ++ (cat gL (ix s.res.chg (cix s.res.chg key).toNat).lines (ix s.res.chg (cix s.res.chg key).toNat).lines.length)) ++ (tF s.res key)) ++ (yF s.res key)) ++ [(Fc.mk (⟨#[97, 99, 99, 111, 117, 110, 116]⟩) ((own s.cfg.acc ((((ix s.res.chg ((cix s.res.chg key)).toNat))).veh) ((((ix s.res.chg ((cix s.res.chg key)).toNat))).time)).1) 0)]), 0) := by rw [chg_yes h1, aF_yes h11, pF_no (hasK_of h12)]; try simp only [List.append_assoc, List.cons_append, List.nil_append, List.append_nil]
              rw [hu]; rfl
          · skip
            refine a_region ?_
            refine rg_put (d := 125) (v := .ow 104) rfl (og rfl (op_move rfl rfl rfl)) ?_
            refine rg_put (d := 126) (v := .pt 103 1) rfl (og rfl (of_eff (s_field_pt rfl Tryd.underlying93 rfl ti9 rfl rfl rfl) rfl)) ?_
            refine rg_put (d := 127) (v := .d (.fl (.string ((((ix s.res.chg ((cix s.res.chg key)).toNat))).veh)))) rfl (og rfl (op_load_pt rfl Tryd.underlying9 rfl rfl rfl rfl rfl)) ?_
            refine rg_put (d := 128) (v := .d (.ag (eFc ((Fc.mk (⟨#[118, 101, 104, 105, 99, 108, 101]⟩) ((((ix s.res.chg ((cix s.res.chg key)).toNat))).veh) 17))))) rfl (og rfl (of_eff (op_build rfl Tryd.underlying81 ti81 rfl (by kernel_rfl) (by kernel_rfl) (pl := #[(0, 1), (1, 1), (2, 1)]) (by kernel_rfl) (.cons rfl rfl (.d _) rfl rfl rfl (.cons rfl rfl (.d _) rfl rfl rfl (.cons rfl rfl (.d _) rfl rfl rfl .nil))) rfl) rfl)) ?_
            refine rg_put (d := 129) (v := .d (.sl 3 (List.map eFc ([(Fc.mk (⟨#[118, 101, 104, 105, 99, 108, 101]⟩) ((((ix s.res.chg ((cix s.res.chg key)).toNat))).veh) 17)])))) rfl (og rfl (of_eff (op_slices rfl Tryd.underlying69 ti81 rfl rfl rfl (by kernel_rfl) (xs := [.ag (eFc ((Fc.mk (⟨#[118, 101, 104, 105, 99, 108, 101]⟩) ((((ix s.res.chg ((cix s.res.chg key)).toNat))).veh) 17)))]) rfl rfl (.cons rfl rfl (.d _) rfl rfl rfl .nil) rfl) rfl)) ?_
            refine rg_nam (d := 130) (v := .ow 108) (m := 108) (nw := [(108, .tr 81 3 (tD eFc ((((([(Fc.mk ⟨#[99, 104, 97, 114, 103, 101]⟩ key 0)] ++ (cat gL (ix s.res.chg (cix s.res.chg key).toNat).lines (ix s.res.chg (cix s.res.chg key).toNat).lines.length)) ++ (tF s.res key)) ++ (yF s.res key)) ++ [(Fc.mk (⟨#[118, 101, 104, 105, 99, 108, 101]⟩) ((((ix s.res.chg ((cix s.res.chg key)).toNat))).veh) 17)])))), (104, .no)]) rfl (og rfl (of_eff (s_append_td 108 rfl Tryd.underlying69 ti81 rfl rfl rfl rfl rfl (.d _) (by simp only [List.length_append, List.length_cons, List.length_nil]; omega) rfl) rfl)) rfl ?_
            refine rg_put (d := 9) (v := .ow 108) rfl (og rfl (op_assign rfl rfl rfl)) ?_
            refine rg_done rfl ?_
            show A _ _ _ _ _ _ _
            refine a_seq ?_
            refine a_rseq ?_
            refine rg_put (d := 131) (v := .pt 101 35) rfl (og rfl (of_eff (s_field_pt rfl Tryd.underlying64 rfl ti61 rfl rfl rfl) rfl)) ?_
            refine rg_put (d := 132) (v := .pt 101 36) rfl (og rfl (of_eff (s_field_pt rfl Tryd.underlying61 rfl ti53 rfl rfl rfl) rfl)) ?_
            refine rg_put (d := 133) (v := .d (.sl 7 (List.map eCg s.books.done))) rfl (og rfl (op_load_pt rfl Tryd.underlying53 rfl rfl rfl rfl rfl)) ?_
            refine rg_put (d := 134) (v := .d (.fl (.string key))) rfl (og rfl (op_move rfl rfl rfl)) ?_
            refine rg_put (d := 135) (v := .d (.fl (.int .i64 (cix s.books.done key)))) rfl (og rfl (op_call rfl Tryd.func41 nm41 rfl (.cons rfl (.d _) (.cons rfl (.d _) .nil)) (cix41 s.books.done key (by have := hT.2.2.1; omega)) rfl)) ?_
            refine rg_put (d := 136) (v := .d (.fl (.bool ((decide (0 ≤ (cix s.books.done key))))))) rfl (og rfl (op_bin rfl rfl rfl (b_geq _ _ _ _) rfl)) ?_
            refine rg_done rfl ?_
            refine a_cond rfl (fun h15 => ?_) (fun h15 => ?_)
            · skip
              have h16 := t_dec h15
              refine a_region ?_
              refine rg_put (d := 137) (v := .ow 108) rfl (og rfl (op_move rfl rfl rfl)) ?_
              refine rg_put (d := 138) (v := .d (.fl (.string key))) rfl (og rfl (op_move rfl rfl rfl)) ?_
              refine rg_put (d := 139) (v := .d (.ag (eFc ((Fc.mk (⟨#[112, 111, 115, 116, 101, 100]⟩) key 0))))) rfl (og rfl (of_eff (op_build rfl Tryd.underlying81 ti81 rfl (by kernel_rfl) (by kernel_rfl) (pl := #[(0, 1), (1, 1), (2, 1)]) (by kernel_rfl) (.cons rfl rfl (.d _) rfl rfl rfl (.cons rfl rfl (.d _) rfl rfl rfl .nil)) rfl) rfl)) ?_
              refine rg_put (d := 140) (v := .d (.sl 3 (List.map eFc ([(Fc.mk (⟨#[112, 111, 115, 116, 101, 100]⟩) key 0)])))) rfl (og rfl (of_eff (op_slices rfl Tryd.underlying69 ti81 rfl rfl rfl (by kernel_rfl) (xs := [.ag (eFc ((Fc.mk (⟨#[112, 111, 115, 116, 101, 100]⟩) key 0)))]) rfl rfl (.cons rfl rfl (.d _) rfl rfl rfl .nil) rfl) rfl)) ?_
              refine rg_nam (d := 141) (v := .ow 109) (m := 109) (nw := [(109, .tr 81 3 (tD eFc (((((([(Fc.mk ⟨#[99, 104, 97, 114, 103, 101]⟩ key 0)] ++ (cat gL (ix s.res.chg (cix s.res.chg key).toNat).lines (ix s.res.chg (cix s.res.chg key).toNat).lines.length)) ++ (tF s.res key)) ++ (yF s.res key)) ++ [(Fc.mk (⟨#[118, 101, 104, 105, 99, 108, 101]⟩) ((((ix s.res.chg ((cix s.res.chg key)).toNat))).veh) 17)]) ++ [(Fc.mk (⟨#[112, 111, 115, 116, 101, 100]⟩) key 0)])))), (108, .no)]) rfl (og rfl (of_eff (s_append_td 109 rfl Tryd.underlying69 ti81 rfl rfl rfl rfl rfl (.d _) (by simp only [List.length_append, List.length_cons, List.length_nil]; omega) rfl) rfl)) rfl ?_
              refine rg_put (d := 9) (v := .ow 109) rfl (og rfl (op_assign rfl rfl rfl)) ?_
              refine rg_done rfl ?_
              show A _ _ _ _ _ _ _
              refine a_rseq ?_
              refine rg_put (d := 142) (v := .ow 109) rfl (og rfl (op_move rfl rfl rfl)) ?_
              refine rg_put (d := 4) (v := .ow 109) rfl (og rfl (op_assign rfl rfl rfl)) ?_
              refine rg_put (d := 5) (v := .d (.fl (.int .i64 0))) rfl (og rfl (op_assign rfl rfl rfl)) ?_
              refine rg_done rfl ?_
              refine a_imp (imp_leakT 4 109 rfl rfl) ?_
              refine a_ret ?_
              show ∃ ds, ResL _ _ _ ds ∧ RV.of ds = _
              refine ⟨[.sl 3 (List.map eFc (((((([(Fc.mk ⟨#[99, 104, 97, 114, 103, 101]⟩ key 0)] ++ (cat gL (ix s.res.chg (cix s.res.chg key).toNat).lines (ix s.res.chg (cix s.res.chg key).toNat).lines.length)) ++ (tF s.res key)) ++ (yF s.res key)) ++ [(Fc.mk (⟨#[118, 101, 104, 105, 99, 108, 101]⟩) ((((ix s.res.chg ((cix s.res.chg key)).toNat))).veh) 17)]) ++ [(Fc.mk (⟨#[112, 111, 115, 116, 101, 100]⟩) key 0)]))), .fl (.int .i64 0)], (.cons (.tmp rfl (.d _)) (.cons (.tmp rfl (.d _)) .nil)), ?_⟩
              have hu : chg s key = (((((([(Fc.mk ⟨#[99, 104, 97, 114, 103, 101]⟩ key 0)] ++ (cat gL (ix s.res.chg (cix s.res.chg key).toNat).lines (ix s.res.chg (cix s.res.chg key).toNat).lines.length)) ++ (tF s.res key)) ++ (yF s.res key)) ++ [(Fc.mk (⟨#[118, 101, 104, 105, 99, 108, 101]⟩) ((((ix s.res.chg ((cix s.res.chg key)).toNat))).veh) 17)]) ++ [(Fc.mk (⟨#[112, 111, 115, 116, 101, 100]⟩) key 0)]), 0) := by rw [chg_yes h1, aF_no h11, pF_yes (hasK_of h15)]; try simp only [List.append_assoc, List.cons_append, List.nil_append, List.append_nil]
              rw [hu]; rfl
            · skip
              have h17 := f_dec h15
              refine a_skip ?_
              show A _ _ _ _ _ _ _
              refine a_rseq ?_
              refine rg_put (d := 142) (v := .ow 108) rfl (og rfl (op_move rfl rfl rfl)) ?_
              refine rg_put (d := 4) (v := .ow 108) rfl (og rfl (op_assign rfl rfl rfl)) ?_
              refine rg_put (d := 5) (v := .d (.fl (.int .i64 0))) rfl (og rfl (op_assign rfl rfl rfl)) ?_
              refine rg_done rfl ?_
              refine a_imp (imp_leakT 4 108 rfl rfl) ?_
              refine a_ret ?_
              show ∃ ds, ResL _ _ _ ds ∧ RV.of ds = _
              refine ⟨[.sl 3 (List.map eFc ((((([(Fc.mk ⟨#[99, 104, 97, 114, 103, 101]⟩ key 0)] ++ (cat gL (ix s.res.chg (cix s.res.chg key).toNat).lines (ix s.res.chg (cix s.res.chg key).toNat).lines.length)) ++ (tF s.res key)) ++ (yF s.res key)) ++ [(Fc.mk (⟨#[118, 101, 104, 105, 99, 108, 101]⟩) ((((ix s.res.chg ((cix s.res.chg key)).toNat))).veh) 17)]))), .fl (.int .i64 0)], (.cons (.tmp rfl (.d _)) (.cons (.tmp rfl (.d _)) .nil)), ?_⟩
              have hu : chg s key = ((((([(Fc.mk ⟨#[99, 104, 97, 114, 103, 101]⟩ key 0)] ++ (cat gL (ix s.res.chg (cix s.res.chg key).toNat).lines (ix s.res.chg (cix s.res.chg key).toNat).lines.length)) ++ (tF s.res key)) ++ (yF s.res key)) ++ [(Fc.mk (⟨#[118, 101, 104, 105, 99, 108, 101]⟩) ((((ix s.res.chg ((cix s.res.chg key)).toNat))).veh) 17)]), 0) := by rw [chg_yes h1, aF_no h11, pF_no (hasK_of h15)]; try simp only [List.append_assoc, List.cons_append, List.nil_append, List.append_nil]
              rw [hu]; rfl
        · skip
          have h18 := t_dec h9
          refine rg_put (d := 84) (v := .d (.fl (.bool p.2))) rfl (oy rfl rfl rfl h9 (op_move rfl rfl rfl)) ?_
          refine rg_put (d := 85) (v := .d (.fl (.bool (!p.2)))) rfl (oy rfl rfl rfl h9 (op_un rfl rfl (u_not _) rfl)) ?_
          refine rg_put (d := 86) (v := .d (.fl (.bool (!p.2)))) rfl (og rfl (op_pick rfl rfl (by rw [h9]; rfl) rfl)) ?_
          refine rg_done rfl ?_
          refine a_cond rfl (fun h19 => ?_) (fun h19 => ?_)
          · skip
            have h20 := t_not h19
            refine a_skip ?_
            show A _ _ _ _ _ _ _
            refine a_seq ?_
            refine a_block ?_
            refine a_rseq ?_
            refine rg_put (d := 89) (v := .d (.fl (.string key))) rfl (og rfl (op_move rfl rfl rfl)) ?_
            refine rg_put (d := 90) (v := .pt 102 3) rfl (og rfl (of_eff (s_field_pt rfl Tryd.underlying56 rfl ti52 rfl rfl rfl) rfl)) ?_
            refine rg_put (d := 91) (v := .d (.sl 5 (List.map eSy s.res.stays))) rfl (og rfl (op_load_pt rfl Tryd.underlying52 rfl rfl rfl rfl rfl)) ?_
            refine rg_put (d := 92) (v := .d (.fl (.int .i64 (p.1 : Int)))) rfl (og rfl (op_move rfl rfl rfl)) ?_
            refine rg_put (d := 93) (v := .el ((eSy (ix s.res.stays p.1)))) rfl (og rfl (s_index rfl Tryd.underlying52 ti126 rfl rfl (by omega) (row_at (by omega)) rfl)) ?_
            refine rg_put (d := 94) (v := .el ((List.drop 0 ((eSy (ix s.res.stays p.1)))))) rfl (og rfl (of_eff (s_field_el rfl Tryd.underlying126 rfl ti9 rfl rfl rfl) rfl)) ?_
            refine rg_put (d := 95) (v := .d (.fl (.string ((ix s.res.stays p.1).id)))) rfl (og rfl (op_load_el rfl Tryd.underlying9 rfl rfl rfl rfl)) ?_
            refine rg_put (d := 96) (v := .d (.fl (.string (((⟨#[112, 58]⟩ : ByteArray) ++ ((ix s.res.stays p.1).id)))))) rfl (og rfl (op_bin rfl rfl rfl (fun ox oy ow => b_sadd _ _ _ ox oy ow (by have := hT.2.2.2.2.2.2.1 p.1 (by omega); show 2 + (ix s.res.stays p.1).id.size ≤ _; omega)) rfl)) ?_
            refine rg_put (d := 97) (v := .d (.fl (.bool ((sEq key (((⟨#[112, 58]⟩ : ByteArray) ++ ((ix s.res.stays p.1).id)))))))) rfl (og rfl (op_bin rfl rfl rfl (b_seq _ _ _) rfl)) ?_
            refine rg_done rfl ?_
            refine a_cond rfl (fun h21 => ?_) (fun h21 => ?_)
            · skip
              refine a_rseq ?_
              refine rg_put (d := 98) (v := .ow 104) rfl (og rfl (op_move rfl rfl rfl)) ?_
              refine rg_put (d := 99) (v := .pt 102 3) rfl (og rfl (of_eff (s_field_pt rfl Tryd.underlying56 rfl ti52 rfl rfl rfl) rfl)) ?_
              refine rg_put (d := 100) (v := .d (.sl 5 (List.map eSy s.res.stays))) rfl (og rfl (op_load_pt rfl Tryd.underlying52 rfl rfl rfl rfl rfl)) ?_
              refine rg_put (d := 101) (v := .d (.fl (.int .i64 (p.1 : Int)))) rfl (og rfl (op_move rfl rfl rfl)) ?_
              refine rg_put (d := 102) (v := .el ((eSy (ix s.res.stays p.1)))) rfl (og rfl (s_index rfl Tryd.underlying52 ti126 rfl rfl (by omega) (row_at (by omega)) rfl)) ?_
              refine rg_put (d := 103) (v := .el ((List.drop 0 ((eSy (ix s.res.stays p.1)))))) rfl (og rfl (of_eff (s_field_el rfl Tryd.underlying126 rfl ti9 rfl rfl rfl) rfl)) ?_
              refine rg_put (d := 104) (v := .d (.fl (.string ((ix s.res.stays p.1).id)))) rfl (og rfl (op_load_el rfl Tryd.underlying9 rfl rfl rfl rfl)) ?_
              refine rg_put (d := 105) (v := .d (.ag (eFc ((Fc.mk (⟨#[115, 116, 97, 121]⟩) ((ix s.res.stays p.1).id) 0))))) rfl (og rfl (of_eff (op_build rfl Tryd.underlying81 ti81 rfl (by kernel_rfl) (by kernel_rfl) (pl := #[(0, 1), (1, 1), (2, 1)]) (by kernel_rfl) (.cons rfl rfl (.d _) rfl rfl rfl (.cons rfl rfl (.d _) rfl rfl rfl .nil)) rfl) rfl)) ?_
              refine rg_put (d := 106) (v := .d (.sl 3 (List.map eFc ([(Fc.mk (⟨#[115, 116, 97, 121]⟩) ((ix s.res.stays p.1).id) 0)])))) rfl (og rfl (of_eff (op_slices rfl Tryd.underlying69 ti81 rfl rfl rfl (by kernel_rfl) (xs := [.ag (eFc ((Fc.mk (⟨#[115, 116, 97, 121]⟩) ((ix s.res.stays p.1).id) 0)))]) rfl rfl (.cons rfl rfl (.d _) rfl rfl rfl .nil) rfl) rfl)) ?_
              refine rg_nam (d := 107) (v := .ow 110) (m := 110) (nw := [(110, .tr 81 3 (tD eFc ((((([(Fc.mk ⟨#[99, 104, 97, 114, 103, 101]⟩ key 0)] ++ (cat gL (ix s.res.chg (cix s.res.chg key).toNat).lines (ix s.res.chg (cix s.res.chg key).toNat).lines.length)) ++ (tF s.res key)) ++ (yB s.res key p.2)) ++ [(Fc.mk (⟨#[115, 116, 97, 121]⟩) ((ix s.res.stays p.1).id) 0)])))), (104, .no)]) rfl (og rfl (of_eff (s_append_td 110 rfl Tryd.underlying69 ti81 rfl rfl rfl rfl rfl (.d _) (by simp only [List.length_append, List.length_cons, List.length_nil]; omega) rfl) rfl)) rfl ?_
              refine rg_put (d := 9) (v := .ow 110) rfl (og rfl (op_assign rfl rfl rfl)) ?_
              refine rg_done rfl ?_
              refine a_region ?_
              refine rg_put (d := 11) (v := .d (.fl (.bool true))) rfl (og rfl (op_assign rfl rfl rfl)) ?_
              refine rg_done rfl ?_
              show A _ _ _ _ _ _ _
              refine a_region ?_
              refine rg_put (d := 87) (v := .d (.fl (.int .i64 (p.1 : Int)))) rfl (og rfl (op_move rfl rfl rfl)) ?_
              refine rg_put (d := 88) (v := .d (.fl (.int .i64 (((p.1 : Int) + 1))))) rfl (og rfl (op_bin rfl rfl rfl (fun x y w => b_add64 _ _ _ x y w (by omega)) rfl)) ?_
              refine rg_put (d := 13) (v := .d (.fl (.int .i64 (((p.1 : Int) + 1))))) rfl (og rfl (op_assign rfl rfl rfl)) ?_
              refine rg_done rfl ?_
              have hm : sEq (pk (ix s.res.stays p.1).id) key = true := (sEq_comm _ _).trans h21
              have hf2 := hok.2 h20
              have hg := yF_at (by omega) hf2 hm
              have hb : yB s.res key p.2 = [] := by rw [h20]; rfl
              show ∃ i, _ ∧ _ ∧ Imp _ _ _ _ _
              refine ⟨(p.1 + 1, true), ⟨by show p.1 + 1 ≤ _; omega, fun h => by cases h⟩, by show _ - (p.1 + 1) < _ - p.1; omega, imp_ren (fun m => bif Nat.beq m 104 then 110 else m) rfl ⟨rfl, rfl, rfl, rfl, rfl, rfl, rfl, rfl, rfl, rfl, rfl, rfl, rfl, (ci (show ((p.1 : Nat) : Int) + 1 = ((p.1 + 1 : Nat) : Int) by omega)), rfl, rfl, trivial⟩ ⟨rfl, rfl, rfl, (congrArg (fun z => Ob.tr 81 3 (tD eFc z)) (by rw [hb, List.append_nil]; show _ = (([(Fc.mk ⟨#[99, 104, 97, 114, 103, 101]⟩ key 0)] ++ (cat gL (ix s.res.chg (cix s.res.chg key).toNat).lines (ix s.res.chg (cix s.res.chg key).toNat).lines.length)) ++ (tF s.res key)) ++ yF s.res key; rw [hg])), trivial⟩⟩
            · skip
              refine a_skip ?_
              show A _ _ _ _ _ _ _
              refine a_region ?_
              refine rg_put (d := 87) (v := .d (.fl (.int .i64 (p.1 : Int)))) rfl (og rfl (op_move rfl rfl rfl)) ?_
              refine rg_put (d := 88) (v := .d (.fl (.int .i64 (((p.1 : Int) + 1))))) rfl (og rfl (op_bin rfl rfl rfl (fun x y w => b_add64 _ _ _ x y w (by omega)) rfl)) ?_
              refine rg_put (d := 13) (v := .d (.fl (.int .i64 (((p.1 : Int) + 1))))) rfl (og rfl (op_assign rfl rfl rfl)) ?_
              refine rg_done rfl ?_
              have hm : sEq (pk (ix s.res.stays p.1).id) key = false := (sEq_comm _ _).trans h21
              have hf2 := hok.2 h20
              show ∃ i, _ ∧ _ ∧ Imp _ _ _ _ _
              refine ⟨(p.1 + 1, p.2), ⟨by show p.1 + 1 ≤ _; omega, fun _ q h => (Nat.lt_succ_iff_lt_or_eq.1 h).elim (hf2 q) (fun e => by rw [e]; exact hm)⟩, by show _ - (p.1 + 1) < _ - p.1; omega, imp_forget rfl ⟨rfl, rfl, rfl, rfl, rfl, rfl, rfl, rfl, rfl, rfl, rfl, rfl, rfl, (ci (show ((p.1 : Nat) : Int) + 1 = ((p.1 + 1 : Nat) : Int) by omega)), rfl, rfl, trivial⟩ ⟨rfl, rfl, rfl, rfl, trivial⟩⟩
          · skip
            have h22 := f_not h19
            refine a_exit ?_
            show A _ _ _ _ _ _ _
            refine a_rseq ?_
            have ht : yB s.res key p.2 = yF s.res key := yB_end (fun hf => by rw [h22] at hf; cases hf)
            rw [show (yB s.res key p.2) = (yF s.res key) from ht]
            have htl := tF_len (r := s.res) (key := key) hT
            have hyl := yF_len (r := s.res) (key := key)
            refine rg_put (d := 109) (v := .pt 101 0) rfl (og rfl (of_eff (s_field_pt rfl Tryd.underlying64 rfl ti46 rfl rfl rfl) rfl)) ?_
            refine rg_put (d := 110) (v := .pt 101 17) rfl (og rfl (of_eff (s_field_pt rfl Tryd.underlying46 rfl ti40 rfl rfl rfl) rfl)) ?_
            refine rg_put (d := 111) (v := .d (.sl 9 (List.map eAc s.cfg.acc))) rfl (og rfl (op_load_pt rfl Tryd.underlying40 rfl rfl rfl rfl rfl)) ?_
            refine rg_put (d := 112) (v := .pt 103 1) rfl (og rfl (of_eff (s_field_pt rfl Tryd.underlying93 rfl ti9 rfl rfl rfl) rfl)) ?_
            refine rg_put (d := 113) (v := .d (.fl (.string ((((ix s.res.chg ((cix s.res.chg key)).toNat))).veh)))) rfl (og rfl (op_load_pt rfl Tryd.underlying9 rfl rfl rfl rfl rfl)) ?_
            refine rg_put (d := 114) (v := .pt 103 4) rfl (og rfl (of_eff (s_field_pt rfl Tryd.underlying93 rfl ti3 rfl rfl rfl) rfl)) ?_
            refine rg_put (d := 115) (v := .d (.fl (.int .i64 ((((ix s.res.chg ((cix s.res.chg key)).toNat))).time)))) rfl (og rfl (op_load_pt rfl Tryd.underlying3 rfl rfl rfl rfl rfl)) ?_
            refine rg_put (d := 116) (v := .tu [.fl (.string ((own s.cfg.acc ((((ix s.res.chg ((cix s.res.chg key)).toNat))).veh) ((((ix s.res.chg ((cix s.res.chg key)).toNat))).time)).1)), .fl (.bool ((own s.cfg.acc ((((ix s.res.chg ((cix s.res.chg key)).toNat))).veh) ((((ix s.res.chg ((cix s.res.chg key)).toNat))).time)).2))]) rfl (og rfl (op_call rfl Tryd.func43 nm43 rfl (.cons rfl (.d _) (.cons rfl (.d _) (.cons rfl (.d _) .nil))) (own43 s.cfg.acc ((((ix s.res.chg ((cix s.res.chg key)).toNat))).veh) ((((ix s.res.chg ((cix s.res.chg key)).toNat))).time) (by omega) hs5) rfl)) ?_
            refine rg_put (d := 108) (v := .tu [.fl (.string ((own s.cfg.acc ((((ix s.res.chg ((cix s.res.chg key)).toNat))).veh) ((((ix s.res.chg ((cix s.res.chg key)).toNat))).time)).1)), .fl (.bool ((own s.cfg.acc ((((ix s.res.chg ((cix s.res.chg key)).toNat))).veh) ((((ix s.res.chg ((cix s.res.chg key)).toNat))).time)).2))]) rfl (og rfl (op_move rfl rfl rfl)) ?_
            refine rg_put (d := 117) (v := .d (.fl (.string ((own s.cfg.acc ((((ix s.res.chg ((cix s.res.chg key)).toNat))).veh) ((((ix s.res.chg ((cix s.res.chg key)).toNat))).time)).1)))) rfl (og rfl (op_extract rfl rfl rfl rfl)) ?_
            refine rg_put (d := 118) (v := .d (.fl (.bool ((own s.cfg.acc ((((ix s.res.chg ((cix s.res.chg key)).toNat))).veh) ((((ix s.res.chg ((cix s.res.chg key)).toNat))).time)).2)))) rfl (og rfl (op_extract rfl rfl rfl rfl)) ?_
            refine rg_put (d := 14) (v := .d (.fl (.string ((own s.cfg.acc ((((ix s.res.chg ((cix s.res.chg key)).toNat))).veh) ((((ix s.res.chg ((cix s.res.chg key)).toNat))).time)).1)))) rfl (og rfl (op_assign rfl rfl rfl)) ?_
            refine rg_put (d := 15) (v := .d (.fl (.bool ((own s.cfg.acc ((((ix s.res.chg ((cix s.res.chg key)).toNat))).veh) ((((ix s.res.chg ((cix s.res.chg key)).toNat))).time)).2)))) rfl (og rfl (op_assign rfl rfl rfl)) ?_
            refine rg_done rfl ?_
            refine a_seq ?_
            refine a_rseq ?_
            refine rg_put (d := 119) (v := .d (.fl (.bool ((own s.cfg.acc ((((ix s.res.chg ((cix s.res.chg key)).toNat))).veh) ((((ix s.res.chg ((cix s.res.chg key)).toNat))).time)).2)))) rfl (og rfl (op_move rfl rfl rfl)) ?_
            refine rg_done rfl ?_
            refine a_cond rfl (fun h23 => ?_) (fun h23 => ?_)
            · skip
              refine a_region ?_
              refine rg_put (d := 120) (v := .ow 104) rfl (og rfl (op_move rfl rfl rfl)) ?_
              refine rg_put (d := 121) (v := .d (.fl (.string ((own s.cfg.acc ((((ix s.res.chg ((cix s.res.chg key)).toNat))).veh) ((((ix s.res.chg ((cix s.res.chg key)).toNat))).time)).1)))) rfl (og rfl (op_move rfl rfl rfl)) ?_
              refine rg_put (d := 122) (v := .d (.ag (eFc ((Fc.mk (⟨#[97, 99, 99, 111, 117, 110, 116]⟩) ((own s.cfg.acc ((((ix s.res.chg ((cix s.res.chg key)).toNat))).veh) ((((ix s.res.chg ((cix s.res.chg key)).toNat))).time)).1) 0))))) rfl (og rfl (of_eff (op_build rfl Tryd.underlying81 ti81 rfl (by kernel_rfl) (by kernel_rfl) (pl := #[(0, 1), (1, 1), (2, 1)]) (by kernel_rfl) (.cons rfl rfl (.d _) rfl rfl rfl (.cons rfl rfl (.d _) rfl rfl rfl .nil)) rfl) rfl)) ?_
              refine rg_put (d := 123) (v := .d (.sl 3 (List.map eFc ([(Fc.mk (⟨#[97, 99, 99, 111, 117, 110, 116]⟩) ((own s.cfg.acc ((((ix s.res.chg ((cix s.res.chg key)).toNat))).veh) ((((ix s.res.chg ((cix s.res.chg key)).toNat))).time)).1) 0)])))) rfl (og rfl (of_eff (op_slices rfl Tryd.underlying69 ti81 rfl rfl rfl (by kernel_rfl) (xs := [.ag (eFc ((Fc.mk (⟨#[97, 99, 99, 111, 117, 110, 116]⟩) ((own s.cfg.acc ((((ix s.res.chg ((cix s.res.chg key)).toNat))).veh) ((((ix s.res.chg ((cix s.res.chg key)).toNat))).time)).1) 0)))]) rfl rfl (.cons rfl rfl (.d _) rfl rfl rfl .nil) rfl) rfl)) ?_
              refine rg_nam (d := 124) (v := .ow 111) (m := 111) (nw := [(111, .tr 81 3 (tD eFc ((((([(Fc.mk ⟨#[99, 104, 97, 114, 103, 101]⟩ key 0)] ++ (cat gL (ix s.res.chg (cix s.res.chg key).toNat).lines (ix s.res.chg (cix s.res.chg key).toNat).lines.length)) ++ (tF s.res key)) ++ (yF s.res key)) ++ [(Fc.mk (⟨#[97, 99, 99, 111, 117, 110, 116]⟩) ((own s.cfg.acc ((((ix s.res.chg ((cix s.res.chg key)).toNat))).veh) ((((ix s.res.chg ((cix s.res.chg key)).toNat))).time)).1) 0)])))), (104, .no)]) rfl (og rfl (of_eff (s_append_td 111 rfl Tryd.underlying69 ti81 rfl rfl rfl rfl rfl (.d _) (by simp only [List.length_append, List.length_cons, List.length_nil]; omega) rfl) rfl)) rfl ?_
              refine rg_put (d := 9) (v := .ow 111) rfl (og rfl (op_assign rfl rfl rfl)) ?_
              refine rg_done rfl ?_
              show A _ _ _ _ _ _ _
              refine a_seq ?_
              refine a_rseq ?_
              refine rg_put (d := 131) (v := .pt 101 35) rfl (og rfl (of_eff (s_field_pt rfl Tryd.underlying64 rfl ti61 rfl rfl rfl) rfl)) ?_
              refine rg_put (d := 132) (v := .pt 101 36) rfl (og rfl (of_eff (s_field_pt rfl Tryd.underlying61 rfl ti53 rfl rfl rfl) rfl)) ?_
              refine rg_put (d := 133) (v := .d (.sl 7 (List.map eCg s.books.done))) rfl (og rfl (op_load_pt rfl Tryd.underlying53 rfl rfl rfl rfl rfl)) ?_
              refine rg_put (d := 134) (v := .d (.fl (.string key))) rfl (og rfl (op_move rfl rfl rfl)) ?_
              refine rg_put (d := 135) (v := .d (.fl (.int .i64 (cix s.books.done key)))) rfl (og rfl (op_call rfl Tryd.func41 nm41 rfl (.cons rfl (.d _) (.cons rfl (.d _) .nil)) (cix41 s.books.done key (by have := hT.2.2.1; omega)) rfl)) ?_
              refine rg_put (d := 136) (v := .d (.fl (.bool ((decide (0 ≤ (cix s.books.done key))))))) rfl (og rfl (op_bin rfl rfl rfl (b_geq _ _ _ _) rfl)) ?_
              refine rg_done rfl ?_
              refine a_cond rfl (fun h24 => ?_) (fun h24 => ?_)
              · skip
                have h25 := t_dec h24
                refine a_region ?_
                refine rg_put (d := 137) (v := .ow 111) rfl (og rfl (op_move rfl rfl rfl)) ?_
                refine rg_put (d := 138) (v := .d (.fl (.string key))) rfl (og rfl (op_move rfl rfl rfl)) ?_
                refine rg_put (d := 139) (v := .d (.ag (eFc ((Fc.mk (⟨#[112, 111, 115, 116, 101, 100]⟩) key 0))))) rfl (og rfl (of_eff (op_build rfl Tryd.underlying81 ti81 rfl (by kernel_rfl) (by kernel_rfl) (pl := #[(0, 1), (1, 1), (2, 1)]) (by kernel_rfl) (.cons rfl rfl (.d _) rfl rfl rfl (.cons rfl rfl (.d _) rfl rfl rfl .nil)) rfl) rfl)) ?_
                refine rg_put (d := 140) (v := .d (.sl 3 (List.map eFc ([(Fc.mk (⟨#[112, 111, 115, 116, 101, 100]⟩) key 0)])))) rfl (og rfl (of_eff (op_slices rfl Tryd.underlying69 ti81 rfl rfl rfl (by kernel_rfl) (xs := [.ag (eFc ((Fc.mk (⟨#[112, 111, 115, 116, 101, 100]⟩) key 0)))]) rfl rfl (.cons rfl rfl (.d _) rfl rfl rfl .nil) rfl) rfl)) ?_
                refine rg_nam (d := 141) (v := .ow 112) (m := 112) (nw := [(112, .tr 81 3 (tD eFc (((((([(Fc.mk ⟨#[99, 104, 97, 114, 103, 101]⟩ key 0)] ++ (cat gL (ix s.res.chg (cix s.res.chg key).toNat).lines (ix s.res.chg (cix s.res.chg key).toNat).lines.length)) ++ (tF s.res key)) ++ (yF s.res key)) ++ [(Fc.mk (⟨#[97, 99, 99, 111, 117, 110, 116]⟩) ((own s.cfg.acc ((((ix s.res.chg ((cix s.res.chg key)).toNat))).veh) ((((ix s.res.chg ((cix s.res.chg key)).toNat))).time)).1) 0)]) ++ [(Fc.mk (⟨#[112, 111, 115, 116, 101, 100]⟩) key 0)])))), (111, .no)]) rfl (og rfl (of_eff (s_append_td 112 rfl Tryd.underlying69 ti81 rfl rfl rfl rfl rfl (.d _) (by simp only [List.length_append, List.length_cons, List.length_nil]; omega) rfl) rfl)) rfl ?_
                refine rg_put (d := 9) (v := .ow 112) rfl (og rfl (op_assign rfl rfl rfl)) ?_
                refine rg_done rfl ?_
                show A _ _ _ _ _ _ _
                refine a_rseq ?_
                refine rg_put (d := 142) (v := .ow 112) rfl (og rfl (op_move rfl rfl rfl)) ?_
                refine rg_put (d := 4) (v := .ow 112) rfl (og rfl (op_assign rfl rfl rfl)) ?_
                refine rg_put (d := 5) (v := .d (.fl (.int .i64 0))) rfl (og rfl (op_assign rfl rfl rfl)) ?_
                refine rg_done rfl ?_
                refine a_imp (imp_leakT 4 112 rfl rfl) ?_
                refine a_ret ?_
                show ∃ ds, ResL _ _ _ ds ∧ RV.of ds = _
                refine ⟨[.sl 3 (List.map eFc (((((([(Fc.mk ⟨#[99, 104, 97, 114, 103, 101]⟩ key 0)] ++ (cat gL (ix s.res.chg (cix s.res.chg key).toNat).lines (ix s.res.chg (cix s.res.chg key).toNat).lines.length)) ++ (tF s.res key)) ++ (yF s.res key)) ++ [(Fc.mk (⟨#[97, 99, 99, 111, 117, 110, 116]⟩) ((own s.cfg.acc ((((ix s.res.chg ((cix s.res.chg key)).toNat))).veh) ((((ix s.res.chg ((cix s.res.chg key)).toNat))).time)).1) 0)]) ++ [(Fc.mk (⟨#[112, 111, 115, 116, 101, 100]⟩) key 0)]))), .fl (.int .i64 0)], (.cons (.tmp rfl (.d _)) (.cons (.tmp rfl (.d _)) .nil)), ?_⟩
                have hu : chg s key = (((((([(Fc.mk ⟨#[99, 104, 97, 114, 103, 101]⟩ key 0)] ++ (cat gL (ix s.res.chg (cix s.res.chg key).toNat).lines (ix s.res.chg (cix s.res.chg key).toNat).lines.length)) ++ (tF s.res key)) ++ (yF s.res key)) ++ [(Fc.mk (⟨#[97, 99, 99, 111, 117, 110, 116]⟩) ((own s.cfg.acc ((((ix s.res.chg ((cix s.res.chg key)).toNat))).veh) ((((ix s.res.chg ((cix s.res.chg key)).toNat))).time)).1) 0)]) ++ [(Fc.mk (⟨#[112, 111, 115, 116, 101, 100]⟩) key 0)]), 0) := by rw [chg_yes h1, aF_yes h23, pF_yes (hasK_of h24)]; try simp only [List.append_assoc, List.cons_append, List.nil_append, List.append_nil]
                rw [hu]; rfl
              · skip
                have h26 := f_dec h24
                refine a_skip ?_
                show A _ _ _ _ _ _ _
                refine a_rseq ?_
                refine rg_put (d := 142) (v := .ow 111) rfl (og rfl (op_move rfl rfl rfl)) ?_
                refine rg_put (d := 4) (v := .ow 111) rfl (og rfl (op_assign rfl rfl rfl)) ?_
                refine rg_put (d := 5) (v := .d (.fl (.int .i64 0))) rfl (og rfl (op_assign rfl rfl rfl)) ?_
                refine rg_done rfl ?_
                refine a_imp (imp_leakT 4 111 rfl rfl) ?_
                refine a_ret ?_
                show ∃ ds, ResL _ _ _ ds ∧ RV.of ds = _
                refine ⟨[.sl 3 (List.map eFc ((((([(Fc.mk ⟨#[99, 104, 97, 114, 103, 101]⟩ key 0)] ++ (cat gL (ix s.res.chg (cix s.res.chg key).toNat).lines (ix s.res.chg (cix s.res.chg key).toNat).lines.length)) ++ (tF s.res key)) ++ (yF s.res key)) ++ [(Fc.mk (⟨#[97, 99, 99, 111, 117, 110, 116]⟩) ((own s.cfg.acc ((((ix s.res.chg ((cix s.res.chg key)).toNat))).veh) ((((ix s.res.chg ((cix s.res.chg key)).toNat))).time)).1) 0)]))), .fl (.int .i64 0)], (.cons (.tmp rfl (.d _)) (.cons (.tmp rfl (.d _)) .nil)), ?_⟩
                have hu : chg s key = ((((([(Fc.mk ⟨#[99, 104, 97, 114, 103, 101]⟩ key 0)] ++ (cat gL (ix s.res.chg (cix s.res.chg key).toNat).lines (ix s.res.chg (cix s.res.chg key).toNat).lines.length)) ++ (tF s.res key)) ++ (yF s.res key)) ++ [(Fc.mk (⟨#[97, 99, 99, 111, 117, 110, 116]⟩) ((own s.cfg.acc ((((ix s.res.chg ((cix s.res.chg key)).toNat))).veh) ((((ix s.res.chg ((cix s.res.chg key)).toNat))).time)).1) 0)]), 0) := by rw [chg_yes h1, aF_yes h23, pF_no (hasK_of h24)]; try simp only [List.append_assoc, List.cons_append, List.nil_append, List.append_nil]
                rw [hu]; rfl
            · skip
              refine a_region ?_
              refine rg_put (d := 125) (v := .ow 104) rfl (og rfl (op_move rfl rfl rfl)) ?_
              refine rg_put (d := 126) (v := .pt 103 1) rfl (og rfl (of_eff (s_field_pt rfl Tryd.underlying93 rfl ti9 rfl rfl rfl) rfl)) ?_
              refine rg_put (d := 127) (v := .d (.fl (.string ((((ix s.res.chg ((cix s.res.chg key)).toNat))).veh)))) rfl (og rfl (op_load_pt rfl Tryd.underlying9 rfl rfl rfl rfl rfl)) ?_
              refine rg_put (d := 128) (v := .d (.ag (eFc ((Fc.mk (⟨#[118, 101, 104, 105, 99, 108, 101]⟩) ((((ix s.res.chg ((cix s.res.chg key)).toNat))).veh) 17))))) rfl (og rfl (of_eff (op_build rfl Tryd.underlying81 ti81 rfl (by kernel_rfl) (by kernel_rfl) (pl := #[(0, 1), (1, 1), (2, 1)]) (by kernel_rfl) (.cons rfl rfl (.d _) rfl rfl rfl (.cons rfl rfl (.d _) rfl rfl rfl (.cons rfl rfl (.d _) rfl rfl rfl .nil))) rfl) rfl)) ?_
              refine rg_put (d := 129) (v := .d (.sl 3 (List.map eFc ([(Fc.mk (⟨#[118, 101, 104, 105, 99, 108, 101]⟩) ((((ix s.res.chg ((cix s.res.chg key)).toNat))).veh) 17)])))) rfl (og rfl (of_eff (op_slices rfl Tryd.underlying69 ti81 rfl rfl rfl (by kernel_rfl) (xs := [.ag (eFc ((Fc.mk (⟨#[118, 101, 104, 105, 99, 108, 101]⟩) ((((ix s.res.chg ((cix s.res.chg key)).toNat))).veh) 17)))]) rfl rfl (.cons rfl rfl (.d _) rfl rfl rfl .nil) rfl) rfl)) ?_
              refine rg_nam (d := 130) (v := .ow 113) (m := 113) (nw := [(113, .tr 81 3 (tD eFc ((((([(Fc.mk ⟨#[99, 104, 97, 114, 103, 101]⟩ key 0)] ++ (cat gL (ix s.res.chg (cix s.res.chg key).toNat).lines (ix s.res.chg (cix s.res.chg key).toNat).lines.length)) ++ (tF s.res key)) ++ (yF s.res key)) ++ [(Fc.mk (⟨#[118, 101, 104, 105, 99, 108, 101]⟩) ((((ix s.res.chg ((cix s.res.chg key)).toNat))).veh) 17)])))), (104, .no)]) rfl (og rfl (of_eff (s_append_td 113 rfl Tryd.underlying69 ti81 rfl rfl rfl rfl rfl (.d _) (by simp only [List.length_append, List.length_cons, List.length_nil]; omega) rfl) rfl)) rfl ?_
              refine rg_put (d := 9) (v := .ow 113) rfl (og rfl (op_assign rfl rfl rfl)) ?_
              refine rg_done rfl ?_
              show A _ _ _ _ _ _ _
              refine a_seq ?_
              refine a_rseq ?_
              refine rg_put (d := 131) (v := .pt 101 35) rfl (og rfl (of_eff (s_field_pt rfl Tryd.underlying64 rfl ti61 rfl rfl rfl) rfl)) ?_
              refine rg_put (d := 132) (v := .pt 101 36) rfl (og rfl (of_eff (s_field_pt rfl Tryd.underlying61 rfl ti53 rfl rfl rfl) rfl)) ?_
              refine rg_put (d := 133) (v := .d (.sl 7 (List.map eCg s.books.done))) rfl (og rfl (op_load_pt rfl Tryd.underlying53 rfl rfl rfl rfl rfl)) ?_
              refine rg_put (d := 134) (v := .d (.fl (.string key))) rfl (og rfl (op_move rfl rfl rfl)) ?_
              refine rg_put (d := 135) (v := .d (.fl (.int .i64 (cix s.books.done key)))) rfl (og rfl (op_call rfl Tryd.func41 nm41 rfl (.cons rfl (.d _) (.cons rfl (.d _) .nil)) (cix41 s.books.done key (by have := hT.2.2.1; omega)) rfl)) ?_
              refine rg_put (d := 136) (v := .d (.fl (.bool ((decide (0 ≤ (cix s.books.done key))))))) rfl (og rfl (op_bin rfl rfl rfl (b_geq _ _ _ _) rfl)) ?_
              refine rg_done rfl ?_
              refine a_cond rfl (fun h27 => ?_) (fun h27 => ?_)
              · skip
                have h28 := t_dec h27
                refine a_region ?_
                refine rg_put (d := 137) (v := .ow 113) rfl (og rfl (op_move rfl rfl rfl)) ?_
                refine rg_put (d := 138) (v := .d (.fl (.string key))) rfl (og rfl (op_move rfl rfl rfl)) ?_
                refine rg_put (d := 139) (v := .d (.ag (eFc ((Fc.mk (⟨#[112, 111, 115, 116, 101, 100]⟩) key 0))))) rfl (og rfl (of_eff (op_build rfl Tryd.underlying81 ti81 rfl (by kernel_rfl) (by kernel_rfl) (pl := #[(0, 1), (1, 1), (2, 1)]) (by kernel_rfl) (.cons rfl rfl (.d _) rfl rfl rfl (.cons rfl rfl (.d _) rfl rfl rfl .nil)) rfl) rfl)) ?_
                refine rg_put (d := 140) (v := .d (.sl 3 (List.map eFc ([(Fc.mk (⟨#[112, 111, 115, 116, 101, 100]⟩) key 0)])))) rfl (og rfl (of_eff (op_slices rfl Tryd.underlying69 ti81 rfl rfl rfl (by kernel_rfl) (xs := [.ag (eFc ((Fc.mk (⟨#[112, 111, 115, 116, 101, 100]⟩) key 0)))]) rfl rfl (.cons rfl rfl (.d _) rfl rfl rfl .nil) rfl) rfl)) ?_
                refine rg_nam (d := 141) (v := .ow 114) (m := 114) (nw := [(114, .tr 81 3 (tD eFc (((((([(Fc.mk ⟨#[99, 104, 97, 114, 103, 101]⟩ key 0)] ++ (cat gL (ix s.res.chg (cix s.res.chg key).toNat).lines (ix s.res.chg (cix s.res.chg key).toNat).lines.length)) ++ (tF s.res key)) ++ (yF s.res key)) ++ [(Fc.mk (⟨#[118, 101, 104, 105, 99, 108, 101]⟩) ((((ix s.res.chg ((cix s.res.chg key)).toNat))).veh) 17)]) ++ [(Fc.mk (⟨#[112, 111, 115, 116, 101, 100]⟩) key 0)])))), (113, .no)]) rfl (og rfl (of_eff (s_append_td 114 rfl Tryd.underlying69 ti81 rfl rfl rfl rfl rfl (.d _) (by simp only [List.length_append, List.length_cons, List.length_nil]; omega) rfl) rfl)) rfl ?_
                refine rg_put (d := 9) (v := .ow 114) rfl (og rfl (op_assign rfl rfl rfl)) ?_
                refine rg_done rfl ?_
                show A _ _ _ _ _ _ _
                refine a_rseq ?_
                refine rg_put (d := 142) (v := .ow 114) rfl (og rfl (op_move rfl rfl rfl)) ?_
                refine rg_put (d := 4) (v := .ow 114) rfl (og rfl (op_assign rfl rfl rfl)) ?_
                refine rg_put (d := 5) (v := .d (.fl (.int .i64 0))) rfl (og rfl (op_assign rfl rfl rfl)) ?_
                refine rg_done rfl ?_
                refine a_imp (imp_leakT 4 114 rfl rfl) ?_
                refine a_ret ?_
                show ∃ ds, ResL _ _ _ ds ∧ RV.of ds = _
                refine ⟨[.sl 3 (List.map eFc (((((([(Fc.mk ⟨#[99, 104, 97, 114, 103, 101]⟩ key 0)] ++ (cat gL (ix s.res.chg (cix s.res.chg key).toNat).lines (ix s.res.chg (cix s.res.chg key).toNat).lines.length)) ++ (tF s.res key)) ++ (yF s.res key)) ++ [(Fc.mk (⟨#[118, 101, 104, 105, 99, 108, 101]⟩) ((((ix s.res.chg ((cix s.res.chg key)).toNat))).veh) 17)]) ++ [(Fc.mk (⟨#[112, 111, 115, 116, 101, 100]⟩) key 0)]))), .fl (.int .i64 0)], (.cons (.tmp rfl (.d _)) (.cons (.tmp rfl (.d _)) .nil)), ?_⟩
                have hu : chg s key = (((((([(Fc.mk ⟨#[99, 104, 97, 114, 103, 101]⟩ key 0)] ++ (cat gL (ix s.res.chg (cix s.res.chg key).toNat).lines (ix s.res.chg (cix s.res.chg key).toNat).lines.length)) ++ (tF s.res key)) ++ (yF s.res key)) ++ [(Fc.mk (⟨#[118, 101, 104, 105, 99, 108, 101]⟩) ((((ix s.res.chg ((cix s.res.chg key)).toNat))).veh) 17)]) ++ [(Fc.mk (⟨#[112, 111, 115, 116, 101, 100]⟩) key 0)]), 0) := by rw [chg_yes h1, aF_no h23, pF_yes (hasK_of h27)]; try simp only [List.append_assoc, List.cons_append, List.nil_append, List.append_nil]
                rw [hu]; rfl
              · skip
                have h29 := f_dec h27
                refine a_skip ?_
                show A _ _ _ _ _ _ _
                refine a_rseq ?_
                refine rg_put (d := 142) (v := .ow 113) rfl (og rfl (op_move rfl rfl rfl)) ?_
                refine rg_put (d := 4) (v := .ow 113) rfl (og rfl (op_assign rfl rfl rfl)) ?_
                refine rg_put (d := 5) (v := .d (.fl (.int .i64 0))) rfl (og rfl (op_assign rfl rfl rfl)) ?_
                refine rg_done rfl ?_
                refine a_imp (imp_leakT 4 113 rfl rfl) ?_
                refine a_ret ?_
                show ∃ ds, ResL _ _ _ ds ∧ RV.of ds = _
                refine ⟨[.sl 3 (List.map eFc ((((([(Fc.mk ⟨#[99, 104, 97, 114, 103, 101]⟩ key 0)] ++ (cat gL (ix s.res.chg (cix s.res.chg key).toNat).lines (ix s.res.chg (cix s.res.chg key).toNat).lines.length)) ++ (tF s.res key)) ++ (yF s.res key)) ++ [(Fc.mk (⟨#[118, 101, 104, 105, 99, 108, 101]⟩) ((((ix s.res.chg ((cix s.res.chg key)).toNat))).veh) 17)]))), .fl (.int .i64 0)], (.cons (.tmp rfl (.d _)) (.cons (.tmp rfl (.d _)) .nil)), ?_⟩
                have hu : chg s key = ((((([(Fc.mk ⟨#[99, 104, 97, 114, 103, 101]⟩ key 0)] ++ (cat gL (ix s.res.chg (cix s.res.chg key).toNat).lines (ix s.res.chg (cix s.res.chg key).toNat).lines.length)) ++ (tF s.res key)) ++ (yF s.res key)) ++ [(Fc.mk (⟨#[118, 101, 104, 105, 99, 108, 101]⟩) ((((ix s.res.chg ((cix s.res.chg key)).toNat))).veh) 17)]), 0) := by rw [chg_yes h1, aF_no h23, pF_no (hasK_of h27)]; try simp only [List.append_assoc, List.cons_append, List.nil_append, List.append_nil]
                rw [hu]; rfl
      · skip
        have h30 := t_dec h7
        refine rg_put (d := 55) (v := .d (.fl (.bool i.2))) rfl (oy rfl rfl rfl h7 (op_move rfl rfl rfl)) ?_
        refine rg_put (d := 56) (v := .d (.fl (.bool (!i.2)))) rfl (oy rfl rfl rfl h7 (op_un rfl rfl (u_not _) rfl)) ?_
        refine rg_put (d := 57) (v := .d (.fl (.bool (!i.2)))) rfl (og rfl (op_pick rfl rfl (by rw [h7]; rfl) rfl)) ?_
        refine rg_done rfl ?_
        refine a_cond rfl (fun h31 => ?_) (fun h31 => ?_)
        · skip
          have h32 := t_not h31
          refine a_skip ?_
          show A _ _ _ _ _ _ _
          refine a_seq ?_
          refine a_block ?_
          refine a_rseq ?_
          refine rg_put (d := 60) (v := .d (.fl (.string key))) rfl (og rfl (op_move rfl rfl rfl)) ?_
          refine rg_put (d := 61) (v := .pt 102 2) rfl (og rfl (of_eff (s_field_pt rfl Tryd.underlying56 rfl ti51 rfl rfl rfl) rfl)) ?_
          refine rg_put (d := 62) (v := .d (.sl 5 (List.map eTp s.res.trips))) rfl (og rfl (op_load_pt rfl Tryd.underlying51 rfl rfl rfl rfl rfl)) ?_
          refine rg_put (d := 63) (v := .d (.fl (.int .i64 (i.1 : Int)))) rfl (og rfl (op_move rfl rfl rfl)) ?_
          refine rg_put (d := 64) (v := .el ((eTp (ix s.res.trips i.1)))) rfl (og rfl (s_index rfl Tryd.underlying51 ti90 rfl rfl (by omega) (row_at (by omega)) rfl)) ?_
          refine rg_put (d := 65) (v := .el ((List.drop 0 ((eTp (ix s.res.trips i.1)))))) rfl (og rfl (of_eff (s_field_el rfl Tryd.underlying90 rfl ti9 rfl rfl rfl) rfl)) ?_
          refine rg_put (d := 66) (v := .d (.fl (.string ((ix s.res.trips i.1).id)))) rfl (og rfl (op_load_el rfl Tryd.underlying9 rfl rfl rfl rfl)) ?_
          refine rg_put (d := 67) (v := .d (.fl (.string (((⟨#[116, 58]⟩ : ByteArray) ++ ((ix s.res.trips i.1).id)))))) rfl (og rfl (op_bin rfl rfl rfl (fun ox oy ow => b_sadd _ _ _ ox oy ow (by have := (hT.2.2.2.2.2.1 i.1 (by omega)).2; show 2 + (ix s.res.trips i.1).id.size ≤ _; omega)) rfl)) ?_
          refine rg_put (d := 68) (v := .d (.fl (.bool ((sEq key (((⟨#[116, 58]⟩ : ByteArray) ++ ((ix s.res.trips i.1).id)))))))) rfl (og rfl (op_bin rfl rfl rfl (b_seq _ _ _) rfl)) ?_
          refine rg_done rfl ?_
          refine a_cond rfl (fun h33 => ?_) (fun h33 => ?_)
          · skip
            refine a_dseq (by kernel_rfl) ?_
            have hsl := stp_len hT.2.2.2.2.2.2.2.2 (ix s.res.trips i.1) (hT.2.2.2.2.2.1 _ (by omega)).1
            refine dr_put (d := 69) (v := .ow 104) rfl (og rfl (op_move rfl rfl rfl)) ?_
            refine dr_put (d := 70) (v := .d (.ag (eRs s.res))) rfl (og rfl (of_eff (s_load_pts rfl Tryd.underlying56 rfl ti56 rfl rfl rfl rfl) rfl)) ?_
            refine dr_put (d := 71) (v := .pt 102 2) rfl (og rfl (of_eff (s_field_pt rfl Tryd.underlying56 rfl ti51 rfl rfl rfl) rfl)) ?_
            refine dr_put (d := 72) (v := .d (.sl 5 (List.map eTp s.res.trips))) rfl (og rfl (op_load_pt rfl Tryd.underlying51 rfl rfl rfl rfl rfl)) ?_
            refine dr_put (d := 73) (v := .d (.fl (.int .i64 (i.1 : Int)))) rfl (og rfl (op_move rfl rfl rfl)) ?_
            refine dr_put (d := 74) (v := .el ((eTp (ix s.res.trips i.1)))) rfl (og rfl (s_index rfl Tryd.underlying51 ti90 rfl rfl (by omega) (row_at (by omega)) rfl)) ?_
            refine dr_put (d := 75) (v := .d (.ag (eTp (ix s.res.trips i.1)))) rfl (og rfl (of_eff (s_load_els rfl Tryd.underlying90 rfl ti90 rfl rfl rfl) rfl)) ?_
            refine dr_put (d := 76) (v := .d (.sl 3 (List.map eFc (([Fc.mk ⟨#[116, 114, 105, 112]⟩ (ix s.res.trips i.1).id 0] ++ stp s.res (ix s.res.trips i.1)))))) rfl (og rfl (op_call rfl Tryd.func42 nm42 rfl (.cons rfl (.d _) (.cons rfl (.d _) .nil)) (st42 s.res (ix s.res.trips i.1) hT.2.2.2.2.2.2.2.2 (hT.2.2.2.2.2.1 _ (by omega)).1) rfl)) ?_
            refine dr_nam (d := 77) (v := .ow 115) (m := 115) (nw := [(115, .tr 81 3 (tD eFc (((([(Fc.mk ⟨#[99, 104, 97, 114, 103, 101]⟩ key 0)] ++ (cat gL (ix s.res.chg (cix s.res.chg key).toNat).lines (ix s.res.chg (cix s.res.chg key).toNat).lines.length)) ++ (tB s.res key i.2)) ++ ([Fc.mk ⟨#[116, 114, 105, 112]⟩ (ix s.res.trips i.1).id 0] ++ stp s.res (ix s.res.trips i.1)))))), (104, .no)]) rfl (og rfl (of_eff (s_append_td 115 rfl Tryd.underlying69 ti81 rfl rfl rfl rfl rfl (.d _) (by simp only [List.length_append, List.length_cons, List.length_nil]; omega) rfl) rfl)) ?_
            refine dr_put (d := 9) (v := .ow 115) rfl (og rfl (op_assign rfl rfl rfl)) ?_
            refine dr_done rfl (by kernel_rfl) (by kernel_rfl) ?_
            refine a_region ?_
            refine rg_put (d := 11) (v := .d (.fl (.bool true))) rfl (og rfl (op_assign rfl rfl rfl)) ?_
            refine rg_done rfl ?_
            show A _ _ _ _ _ _ _
            refine a_region ?_
            refine rg_put (d := 58) (v := .d (.fl (.int .i64 (i.1 : Int)))) rfl (og rfl (op_move rfl rfl rfl)) ?_
            refine rg_put (d := 59) (v := .d (.fl (.int .i64 (((i.1 : Int) + 1))))) rfl (og rfl (op_bin rfl rfl rfl (fun x y w => b_add64 _ _ _ x y w (by omega)) rfl)) ?_
            refine rg_put (d := 12) (v := .d (.fl (.int .i64 (((i.1 : Int) + 1))))) rfl (og rfl (op_assign rfl rfl rfl)) ?_
            refine rg_done rfl ?_
            have hm : sEq (tk (ix s.res.trips i.1).id) key = true := (sEq_comm _ _).trans h33
            have hf2 := hok.2 h32
            have hg := tF_at (by omega) hf2 hm
            have hb : tB s.res key i.2 = [] := by rw [h32]; rfl
            show ∃ i, _ ∧ _ ∧ Imp _ _ _ _ _
            refine ⟨(i.1 + 1, true), ⟨by show i.1 + 1 ≤ _; omega, fun h => by cases h⟩, by show _ - (i.1 + 1) < _ - i.1; omega, imp_ren (fun m => bif Nat.beq m 104 then 115 else m) rfl ⟨rfl, rfl, rfl, rfl, rfl, rfl, rfl, rfl, rfl, rfl, rfl, (ci (show ((i.1 : Nat) : Int) + 1 = ((i.1 + 1 : Nat) : Int) by omega)), rfl, rfl, trivial⟩ ⟨rfl, rfl, rfl, (congrArg (fun z => Ob.tr 81 3 (tD eFc z)) (by rw [hb, List.append_nil]; show _ = ([(Fc.mk ⟨#[99, 104, 97, 114, 103, 101]⟩ key 0)] ++ (cat gL (ix s.res.chg (cix s.res.chg key).toNat).lines (ix s.res.chg (cix s.res.chg key).toNat).lines.length)) ++ tF s.res key; rw [hg])), trivial⟩⟩
          · skip
            refine a_skip ?_
            show A _ _ _ _ _ _ _
            refine a_region ?_
            refine rg_put (d := 58) (v := .d (.fl (.int .i64 (i.1 : Int)))) rfl (og rfl (op_move rfl rfl rfl)) ?_
            refine rg_put (d := 59) (v := .d (.fl (.int .i64 (((i.1 : Int) + 1))))) rfl (og rfl (op_bin rfl rfl rfl (fun x y w => b_add64 _ _ _ x y w (by omega)) rfl)) ?_
            refine rg_put (d := 12) (v := .d (.fl (.int .i64 (((i.1 : Int) + 1))))) rfl (og rfl (op_assign rfl rfl rfl)) ?_
            refine rg_done rfl ?_
            have hm : sEq (tk (ix s.res.trips i.1).id) key = false := (sEq_comm _ _).trans h33
            have hf2 := hok.2 h32
            show ∃ i, _ ∧ _ ∧ Imp _ _ _ _ _
            refine ⟨(i.1 + 1, i.2), ⟨by show i.1 + 1 ≤ _; omega, fun _ q h => (Nat.lt_succ_iff_lt_or_eq.1 h).elim (hf2 q) (fun e => by rw [e]; exact hm)⟩, by show _ - (i.1 + 1) < _ - i.1; omega, imp_forget rfl ⟨rfl, rfl, rfl, rfl, rfl, rfl, rfl, rfl, rfl, rfl, rfl, (ci (show ((i.1 : Nat) : Int) + 1 = ((i.1 + 1 : Nat) : Int) by omega)), rfl, rfl, trivial⟩ ⟨rfl, rfl, rfl, rfl, trivial⟩⟩
        · skip
          have h34 := f_not h31
          refine a_exit ?_
          show A _ _ _ _ _ _ _
          refine a_rseq ?_
          have ht : tB s.res key i.2 = tF s.res key := tB_end (fun hf => by rw [h34] at hf; cases hf)
          rw [show (tB s.res key i.2) = (tF s.res key) from ht]
          have htl := tF_len (r := s.res) (key := key) hT
          have hyl := yF_len (r := s.res) (key := key)
          refine rg_put (d := 11) (v := .d (.fl (.bool false))) rfl (og rfl (op_assign rfl rfl rfl)) ?_
          refine rg_done rfl ?_
          refine a_seq ?_
          refine a_rseq ?_
          refine rg_put (d := 13) (v := .d (.fl (.int .i64 0))) rfl (og rfl (op_assign rfl rfl rfl)) ?_
          refine rg_done rfl ?_
          refine a_block ?_
          refine a_loop (ι := Nat × Bool) (fun p => SS [(0, .d (.ag (eSa s))), (1, .d (.fl (.string key))), (2, .pt 101 0), (4, .d (.fl (.slice none 0 0))), (5, .d (.fl (.int .i64 0))), (6, .pt 102 0), (7, .d (.fl (.int .i64 (cix s.res.chg key)))), (8, .pt 103 0), (10, .d (.fl (.int .i64 (k : Int)))), (12, .d (.fl (.int .i64 (i.1 : Int)))), (23, .d (.fl (.bool ((decide ((cix s.res.chg key) < 0)))))), (36, .d (.fl (.bool ((decide ((k : Int) < (((((ix s.res.chg ((cix s.res.chg key)).toNat))).lines).length : Int))))))), (57, .d (.fl (.bool (!i.2)))), (13, .d (.fl (.int .i64 (p.1 : Int)))), (11, .d (.fl (.bool p.2))), (9, .ow 104)] [(101, .bx 64 (eSa s)), (102, .bx 56 (eRs s.res)), (103, .bx 93 ((eCg (((ix s.res.chg ((cix s.res.chg key)).toNat)))))), (104, .tr 81 3 (tD eFc (((([(Fc.mk ⟨#[99, 104, 97, 114, 103, 101]⟩ key 0)] ++ (cat gL (ix s.res.chg (cix s.res.chg key).toNat).lines (ix s.res.chg (cix s.res.chg key).toNat).lines.length)) ++ (tF s.res key)) ++ (yB s.res key p.2)))))]) (fun p => p.1 ≤ s.res.stays.length ∧ (p.2 = false → ∀ q, q < p.1 → sEq (pk (ix s.res.stays q).id) key = false)) (fun p => s.res.stays.length - p.1) (0, false) (⟨by show 0 ≤ _; omega, fun _ q h => absurd h (Nat.not_lt_zero q)⟩) (imp_forget rfl ⟨rfl, rfl, rfl, rfl, rfl, rfl, rfl, rfl, rfl, rfl, rfl, rfl, rfl, rfl, rfl, (by first | rfl | exact ci (by omega) | exact ci (by simp) | exact cd (by simp) | simp), trivial⟩ ⟨rfl, rfl, rfl, (congrArg (fun z => Ob.tr 81 3 (tD eFc z)) (List.append_nil _).symm), trivial⟩) (fun p hok => ?_)
          have hk1 := hok.1
          have htl := tF_len (r := s.res) (key := key) hT
          have hyl := yB_len (r := s.res) (key := key) (b := p.2)
          have hys := hT.2.2.2.2.1
          have hll := hT.2.2.2.2.2.2.2.1 (cix s.res.chg key).toNat (by omega)
          have hc1 := cat_len (g := gL) (l := (ix s.res.chg (cix s.res.chg key).toNat).lines) (c := 1) (fun x _ => gL_len x) (ix s.res.chg (cix s.res.chg key).toNat).lines.length (Nat.le_refl _)
          refine a_seq ?_
          refine a_rseq ?_
          refine rg_put (d := 78) (v := .d (.fl (.int .i64 (p.1 : Int)))) rfl (og rfl (op_move rfl rfl rfl)) ?_
          refine rg_put (d := 79) (v := .pt 102 3) rfl (og rfl (of_eff (s_field_pt rfl Tryd.underlying56 rfl ti52 rfl rfl rfl) rfl)) ?_
          refine rg_put (d := 80) (v := .d (.sl 5 (List.map eSy s.res.stays))) rfl (og rfl (op_load_pt rfl Tryd.underlying52 rfl rfl rfl rfl rfl)) ?_
          refine rg_put (d := 81) (v := .d (.fl (.int .i64 (s.res.stays.length : Int)))) rfl (og rfl (s_len rfl Tryd.underlying52 rfl rfl)) ?_
          refine rg_put (d := 82) (v := .d (.fl (.bool ((decide ((p.1 : Int) < (s.res.stays.length : Int))))))) rfl (og rfl (op_bin rfl rfl rfl (b_lss _ _ _ _) rfl)) ?_
          refine rg_put (d := 83) (v := .d (.fl (.bool ((decide ((p.1 : Int) < (s.res.stays.length : Int))))))) rfl (og rfl (op_move rfl rfl rfl)) ?_
          rcases fot ((decide ((p.1 : Int) < (s.res.stays.length : Int)))) with h35 | h35
          · skip
            have h36 := f_dec h35
            refine rg_put (d := 84) (v := .d (.fl undef)) rfl (on rfl rfl rfl h35) ?_
            refine rg_put (d := 85) (v := .d (.fl undef)) rfl (on rfl rfl rfl h35) ?_
            refine rg_put (d := 86) (v := .d (.fl (.bool false))) rfl (og rfl (op_pick rfl rfl (by rw [h35]; rfl) rfl)) ?_
            refine rg_done rfl ?_
            refine a_condF rfl rfl ?_
            refine a_exit ?_
            show A _ _ _ _ _ _ _
            refine a_rseq ?_
            have ht : yB s.res key p.2 = yF s.res key := yB_end (fun hf q h => hok.2 hf q (by omega))
            rw [show (yB s.res key p.2) = (yF s.res key) from ht]
            have htl := tF_len (r := s.res) (key := key) hT
            have hyl := yF_len (r := s.res) (key := key)
            refine rg_put (d := 109) (v := .pt 101 0) rfl (og rfl (of_eff (s_field_pt rfl Tryd.underlying64 rfl ti46 rfl rfl rfl) rfl)) ?_
            refine rg_put (d := 110) (v := .pt 101 17) rfl (og rfl (of_eff (s_field_pt rfl Tryd.underlying46 rfl ti40 rfl rfl rfl) rfl)) ?_
            refine rg_put (d := 111) (v := .d (.sl 9 (List.map eAc s.cfg.acc))) rfl (og rfl (op_load_pt rfl Tryd.underlying40 rfl rfl rfl rfl rfl)) ?_
            refine rg_put (d := 112) (v := .pt 103 1) rfl (og rfl (of_eff (s_field_pt rfl Tryd.underlying93 rfl ti9 rfl rfl rfl) rfl)) ?_
            refine rg_put (d := 113) (v := .d (.fl (.string ((((ix s.res.chg ((cix s.res.chg key)).toNat))).veh)))) rfl (og rfl (op_load_pt rfl Tryd.underlying9 rfl rfl rfl rfl rfl)) ?_
            refine rg_put (d := 114) (v := .pt 103 4) rfl (og rfl (of_eff (s_field_pt rfl Tryd.underlying93 rfl ti3 rfl rfl rfl) rfl)) ?_
            refine rg_put (d := 115) (v := .d (.fl (.int .i64 ((((ix s.res.chg ((cix s.res.chg key)).toNat))).time)))) rfl (og rfl (op_load_pt rfl Tryd.underlying3 rfl rfl rfl rfl rfl)) ?_
            refine rg_put (d := 116) (v := .tu [.fl (.string ((own s.cfg.acc ((((ix s.res.chg ((cix s.res.chg key)).toNat))).veh) ((((ix s.res.chg ((cix s.res.chg key)).toNat))).time)).1)), .fl (.bool ((own s.cfg.acc ((((ix s.res.chg ((cix s.res.chg key)).toNat))).veh) ((((ix s.res.chg ((cix s.res.chg key)).toNat))).time)).2))]) rfl (og rfl (op_call rfl Tryd.func43 nm43 rfl (.cons rfl (.d _) (.cons rfl (.d _) (.cons rfl (.d _) .nil))) (own43 s.cfg.acc ((((ix s.res.chg ((cix s.res.chg key)).toNat))).veh) ((((ix s.res.chg ((cix s.res.chg key)).toNat))).time) (by omega) hs5) rfl)) ?_
            refine rg_put (d := 108) (v := .tu [.fl (.string ((own s.cfg.acc ((((ix s.res.chg ((cix s.res.chg key)).toNat))).veh) ((((ix s.res.chg ((cix s.res.chg key)).toNat))).time)).1)), .fl (.bool ((own s.cfg.acc ((((ix s.res.chg ((cix s.res.chg key)).toNat))).veh) ((((ix s.res.chg ((cix s.res.chg key)).toNat))).time)).2))]) rfl (og rfl (op_move rfl rfl rfl)) ?_
            refine rg_put (d := 117) (v := .d (.fl (.string ((own s.cfg.acc ((((ix s.res.chg ((cix s.res.chg key)).toNat))).veh) ((((ix s.res.chg ((cix s.res.chg key)).toNat))).time)).1)))) rfl (og rfl (op_extract rfl rfl rfl rfl)) ?_
            refine rg_put (d := 118) (v := .d (.fl (.bool ((own s.cfg.acc ((((ix s.res.chg ((cix s.res.chg key)).toNat))).veh) ((((ix s.res.chg ((cix s.res.chg key)).toNat))).time)).2)))) rfl (og rfl (op_extract rfl rfl rfl rfl)) ?_
            refine rg_put (d := 14) (v := .d (.fl (.string ((own s.cfg.acc ((((ix s.res.chg ((cix s.res.chg key)).toNat))).veh) ((((ix s.res.chg ((cix s.res.chg key)).toNat))).time)).1)))) rfl (og rfl (op_assign rfl rfl rfl)) ?_
            refine rg_put (d := 15) (v := .d (.fl (.bool ((own s.cfg.acc ((((ix s.res.chg ((cix s.res.chg key)).toNat))).veh) ((((ix s.res.chg ((cix s.res.chg key)).toNat))).time)).2)))) rfl (og rfl (op_assign rfl rfl rfl)) ?_
            refine rg_done rfl ?_
            refine a_seq ?_
            refine a_rseq ?_
            refine rg_put (d := 119) (v := .d (.fl (.bool ((own s.cfg.acc ((((ix s.res.chg ((cix s.res.chg key)).toNat))).veh) ((((ix s.res.chg ((cix s.res.chg key)).toNat))).time)).2)))) rfl (og rfl (op_move rfl rfl rfl)) ?_
            refine rg_done rfl ?_
            refine a_cond rfl (fun h37 => ?_) (fun h37 => ?_)
            · skip
              refine a_region ?_
              refine rg_put (d := 120) (v := .ow 104) rfl (og rfl (op_move rfl rfl rfl)) ?_
              refine rg_put (d := 121) (v := .d (.fl (.string ((own s.cfg.acc ((((ix s.res.chg ((cix s.res.chg key)).toNat))).veh) ((((ix s.res.chg ((cix s.res.chg key)).toNat))).time)).1)))) rfl (og rfl (op_move rfl rfl rfl)) ?_
              refine rg_put (d := 122) (v := .d (.ag (eFc ((Fc.mk (⟨#[97, 99, 99, 111, 117, 110, 116]⟩) ((own s.cfg.acc ((((ix s.res.chg ((cix s.res.chg key)).toNat))).veh) ((((ix s.res.chg ((cix s.res.chg key)).toNat))).time)).1) 0))))) rfl (og rfl (of_eff (op_build rfl Tryd.underlying81 ti81 rfl (by kernel_rfl) (by kernel_rfl) (pl := #[(0, 1), (1, 1), (2, 1)]) (by kernel_rfl) (.cons rfl rfl (.d _) rfl rfl rfl (.cons rfl rfl (.d _) rfl rfl rfl .nil)) rfl) rfl)) ?_
              refine rg_put (d := 123) (v := .d (.sl 3 (List.map eFc ([(Fc.mk (⟨#[97, 99, 99, 111, 117, 110, 116]⟩) ((own s.cfg.acc ((((ix s.res.chg ((cix s.res.chg key)).toNat))).veh) ((((ix s.res.chg ((cix s.res.chg key)).toNat))).time)).1) 0)])))) rfl (og rfl (of_eff (op_slices rfl Tryd.underlying69 ti81 rfl rfl rfl (by kernel_rfl) (xs := [.ag (eFc ((Fc.mk (⟨#[97, 99, 99, 111, 117, 110, 116]⟩) ((own s.cfg.acc ((((ix s.res.chg ((cix s.res.chg key)).toNat))).veh) ((((ix s.res.chg ((cix s.res.chg key)).toNat))).time)).1) 0)))]) rfl rfl (.cons rfl rfl (.d _) rfl rfl rfl .nil) rfl) rfl)) ?_
              refine rg_nam (d := 124) (v := .ow 116) (m := 116) (nw := [(116, .tr 81 3 (tD eFc ((((([(Fc.mk ⟨#[99, 104, 97, 114, 103, 101]⟩ key 0)] ++ (cat gL (ix s.res.chg (cix s.res.chg key).toNat).lines (ix s.res.chg (cix s.res.chg key).toNat).lines.length)) ++ (tF s.res key)) ++ (yF s.res key)) ++ [(Fc.mk (⟨#[97, 99, 99, 111, 117, 110, 116]⟩) ((own s.cfg.acc ((((ix s.res.chg ((cix s.res.chg key)).toNat))).veh) ((((ix s.res.chg ((cix s.res.chg key)).toNat))).time)).1) 0)])))), (104, .no)]) rfl (og rfl (of_eff (s_append_td 116 rfl Tryd.underlying69 ti81 rfl rfl rfl rfl rfl (.d _) (by simp only [List.length_append, List.length_cons, List.length_nil]; omega) rfl) rfl)) rfl ?_
              refine rg_put (d := 9) (v := .ow 116) rfl (og rfl (op_assign rfl rfl rfl)) ?_
              refine rg_done rfl ?_
              show A _ _ _ _ _ _ _
              refine a_seq ?_
              refine a_rseq ?_
              refine rg_put (d := 131) (v := .pt 101 35) rfl (og rfl (of_eff (s_field_pt rfl Tryd.underlying64 rfl ti61 rfl rfl rfl) rfl)) ?_
              refine rg_put (d := 132) (v := .pt 101 36) rfl (og rfl (of_eff (s_field_pt rfl Tryd.underlying61 rfl ti53 rfl rfl rfl) rfl)) ?_
              refine rg_put (d := 133) (v := .d (.sl 7 (List.map eCg s.books.done))) rfl (og rfl (op_load_pt rfl Tryd.underlying53 rfl rfl rfl rfl rfl)) ?_
              refine rg_put (d := 134) (v := .d (.fl (.string key))) rfl (og rfl (op_move rfl rfl rfl)) ?_
              refine rg_put (d := 135) (v := .d (.fl (.int .i64 (cix s.books.done key)))) rfl (og rfl (op_call rfl Tryd.func41 nm41 rfl (.cons rfl (.d _) (.cons rfl (.d _) .nil)) (cix41 s.books.done key (by have := hT.2.2.1; omega)) rfl)) ?_
              refine rg_put (d := 136) (v := .d (.fl (.bool ((decide (0 ≤ (cix s.books.done key))))))) rfl (og rfl (op_bin rfl rfl rfl (b_geq _ _ _ _) rfl)) ?_
              refine rg_done rfl ?_
              refine a_cond rfl (fun h38 => ?_) (fun h38 => ?_)
              · skip
                have h39 := t_dec h38
                refine a_region ?_
                refine rg_put (d := 137) (v := .ow 116) rfl (og rfl (op_move rfl rfl rfl)) ?_
                refine rg_put (d := 138) (v := .d (.fl (.string key))) rfl (og rfl (op_move rfl rfl rfl)) ?_
                refine rg_put (d := 139) (v := .d (.ag (eFc ((Fc.mk (⟨#[112, 111, 115, 116, 101, 100]⟩) key 0))))) rfl (og rfl (of_eff (op_build rfl Tryd.underlying81 ti81 rfl (by kernel_rfl) (by kernel_rfl) (pl := #[(0, 1), (1, 1), (2, 1)]) (by kernel_rfl) (.cons rfl rfl (.d _) rfl rfl rfl (.cons rfl rfl (.d _) rfl rfl rfl .nil)) rfl) rfl)) ?_
                refine rg_put (d := 140) (v := .d (.sl 3 (List.map eFc ([(Fc.mk (⟨#[112, 111, 115, 116, 101, 100]⟩) key 0)])))) rfl (og rfl (of_eff (op_slices rfl Tryd.underlying69 ti81 rfl rfl rfl (by kernel_rfl) (xs := [.ag (eFc ((Fc.mk (⟨#[112, 111, 115, 116, 101, 100]⟩) key 0)))]) rfl rfl (.cons rfl rfl (.d _) rfl rfl rfl .nil) rfl) rfl)) ?_
                refine rg_nam (d := 141) (v := .ow 117) (m := 117) (nw := [(117, .tr 81 3 (tD eFc (((((([(Fc.mk ⟨#[99, 104, 97, 114, 103, 101]⟩ key 0)] ++ (cat gL (ix s.res.chg (cix s.res.chg key).toNat).lines (ix s.res.chg (cix s.res.chg key).toNat).lines.length)) ++ (tF s.res key)) ++ (yF s.res key)) ++ [(Fc.mk (⟨#[97, 99, 99, 111, 117, 110, 116]⟩) ((own s.cfg.acc ((((ix s.res.chg ((cix s.res.chg key)).toNat))).veh) ((((ix s.res.chg ((cix s.res.chg key)).toNat))).time)).1) 0)]) ++ [(Fc.mk (⟨#[112, 111, 115, 116, 101, 100]⟩) key 0)])))), (116, .no)]) rfl (og rfl (of_eff (s_append_td 117 rfl Tryd.underlying69 ti81 rfl rfl rfl rfl rfl (.d _) (by simp only [List.length_append, List.length_cons, List.length_nil]; omega) rfl) rfl)) rfl ?_
                refine rg_put (d := 9) (v := .ow 117) rfl (og rfl (op_assign rfl rfl rfl)) ?_
                refine rg_done rfl ?_
                show A _ _ _ _ _ _ _
                refine a_rseq ?_
                refine rg_put (d := 142) (v := .ow 117) rfl (og rfl (op_move rfl rfl rfl)) ?_
                refine rg_put (d := 4) (v := .ow 117) rfl (og rfl (op_assign rfl rfl rfl)) ?_
                refine rg_put (d := 5) (v := .d (.fl (.int .i64 0))) rfl (og rfl (op_assign rfl rfl rfl)) ?_
                refine rg_done rfl ?_
                refine a_imp (imp_leakT 4 117 rfl rfl) ?_
                refine a_ret ?_
                show ∃ ds, ResL _ _ _ ds ∧ RV.of ds = _
                refine ⟨[.sl 3 (List.map eFc (((((([(Fc.mk ⟨#[99, 104, 97, 114, 103, 101]⟩ key 0)] ++ (cat gL (ix s.res.chg (cix s.res.chg key).toNat).lines (ix s.res.chg (cix s.res.chg key).toNat).lines.length)) ++ (tF s.res key)) ++ (yF s.res key)) ++ [(Fc.mk (⟨#[97, 99, 99, 111, 117, 110, 116]⟩) ((own s.cfg.acc ((((ix s.res.chg ((cix s.res.chg key)).toNat))).veh) ((((ix s.res.chg ((cix s.res.chg key)).toNat))).time)).1) 0)]) ++ [(Fc.mk (⟨#[112, 111, 115, 116, 101, 100]⟩) key 0)]))), .fl (.int .i64 0)], (.cons (.tmp rfl (.d _)) (.cons (.tmp rfl (.d _)) .nil)), ?_⟩
                have hu : chg s key = (((((([(Fc.mk ⟨#[99, 104, 97, 114, 103, 101]⟩ key 0)] ++ (cat gL (ix s.res.chg (cix s.res.chg key).toNat).lines (ix s.res.chg (cix s.res.chg key).toNat).lines.length)) ++ (tF s.res key)) ++ (yF s.res key)) ++ [(Fc.mk (⟨#[97, 99, 99, 111, 117, 110, 116]⟩) ((own s.cfg.acc ((((ix s.res.chg ((cix s.res.chg key)).toNat))).veh) ((((ix s.res.chg ((cix s.res.chg key)).toNat))).time)).1) 0)]) ++ [(Fc.mk (⟨#[112, 111, 115, 116, 101, 100]⟩) key 0)]), 0) := by rw [chg_yes h1, aF_yes h37, pF_yes (hasK_of h38)]; try simp only [List.append_assoc, List.cons_append, List.nil_append, List.append_nil]
                rw [hu]; rfl
              · skip
                have h40 := f_dec h38
                refine a_skip ?_
                show A _ _ _ _ _ _ _
                refine a_rseq ?_
                refine rg_put (d := 142) (v := .ow 116) rfl (og rfl (op_move rfl rfl rfl)) ?_
                refine rg_put (d := 4) (v := .ow 116) rfl (og rfl (op_assign rfl rfl rfl)) ?_
                refine rg_put (d := 5) (v := .d (.fl (.int .i64 0))) rfl (og rfl (op_assign rfl rfl rfl)) ?_
                refine rg_done rfl ?_
                refine a_imp (imp_leakT 4 116 rfl rfl) ?_
                refine a_ret ?_
                show ∃ ds, ResL _ _ _ ds ∧ RV.of ds = _
                refine ⟨[.sl 3 (List.map eFc ((((([(Fc.mk ⟨#[99, 104, 97, 114, 103, 101]⟩ key 0)] ++ (cat gL (ix s.res.chg (cix s.res.chg key).toNat).lines (ix s.res.chg (cix s.res.chg key).toNat).lines.length)) ++ (tF s.res key)) ++ (yF s.res key)) ++ [(Fc.mk (⟨#[97, 99, 99, 111, 117, 110, 116]⟩) ((own s.cfg.acc ((((ix s.res.chg ((cix s.res.chg key)).toNat))).veh) ((((ix s.res.chg ((cix s.res.chg key)).toNat))).time)).1) 0)]))), .fl (.int .i64 0)], (.cons (.tmp rfl (.d _)) (.cons (.tmp rfl (.d _)) .nil)), ?_⟩
                have hu : chg s key = ((((([(Fc.mk ⟨#[99, 104, 97, 114, 103, 101]⟩ key 0)] ++ (cat gL (ix s.res.chg (cix s.res.chg key).toNat).lines (ix s.res.chg (cix s.res.chg key).toNat).lines.length)) ++ (tF s.res key)) ++ (yF s.res key)) ++ [(Fc.mk (⟨#[97, 99, 99, 111, 117, 110, 116]⟩) ((own s.cfg.acc ((((ix s.res.chg ((cix s.res.chg key)).toNat))).veh) ((((ix s.res.chg ((cix s.res.chg key)).toNat))).time)).1) 0)]), 0) := by rw [chg_yes h1, aF_yes h37, pF_no (hasK_of h38)]; try simp only [List.append_assoc, List.cons_append, List.nil_append, List.append_nil]
                rw [hu]; rfl
            · skip
              refine a_region ?_
              refine rg_put (d := 125) (v := .ow 104) rfl (og rfl (op_move rfl rfl rfl)) ?_
              refine rg_put (d := 126) (v := .pt 103 1) rfl (og rfl (of_eff (s_field_pt rfl Tryd.underlying93 rfl ti9 rfl rfl rfl) rfl)) ?_
              refine rg_put (d := 127) (v := .d (.fl (.string ((((ix s.res.chg ((cix s.res.chg key)).toNat))).veh)))) rfl (og rfl (op_load_pt rfl Tryd.underlying9 rfl rfl rfl rfl rfl)) ?_
              refine rg_put (d := 128) (v := .d (.ag (eFc ((Fc.mk (⟨#[118, 101, 104, 105, 99, 108, 101]⟩) ((((ix s.res.chg ((cix s.res.chg key)).toNat))).veh) 17))))) rfl (og rfl (of_eff (op_build rfl Tryd.underlying81 ti81 rfl (by kernel_rfl) (by kernel_rfl) (pl := #[(0, 1), (1, 1), (2, 1)]) (by kernel_rfl) (.cons rfl rfl (.d _) rfl rfl rfl (.cons rfl rfl (.d _) rfl rfl rfl (.cons rfl rfl (.d _) rfl rfl rfl .nil))) rfl) rfl)) ?_
              refine rg_put (d := 129) (v := .d (.sl 3 (List.map eFc ([(Fc.mk (⟨#[118, 101, 104, 105, 99, 108, 101]⟩) ((((ix s.res.chg ((cix s.res.chg key)).toNat))).veh) 17)])))) rfl (og rfl (of_eff (op_slices rfl Tryd.underlying69 ti81 rfl rfl rfl (by kernel_rfl) (xs := [.ag (eFc ((Fc.mk (⟨#[118, 101, 104, 105, 99, 108, 101]⟩) ((((ix s.res.chg ((cix s.res.chg key)).toNat))).veh) 17)))]) rfl rfl (.cons rfl rfl (.d _) rfl rfl rfl .nil) rfl) rfl)) ?_
              refine rg_nam (d := 130) (v := .ow 118) (m := 118) (nw := [(118, .tr 81 3 (tD eFc ((((([(Fc.mk ⟨#[99, 104, 97, 114, 103, 101]⟩ key 0)] ++ (cat gL (ix s.res.chg (cix s.res.chg key).toNat).lines (ix s.res.chg (cix s.res.chg key).toNat).lines.length)) ++ (tF s.res key)) ++ (yF s.res key)) ++ [(Fc.mk (⟨#[118, 101, 104, 105, 99, 108, 101]⟩) ((((ix s.res.chg ((cix s.res.chg key)).toNat))).veh) 17)])))), (104, .no)]) rfl (og rfl (of_eff (s_append_td 118 rfl Tryd.underlying69 ti81 rfl rfl rfl rfl rfl (.d _) (by simp only [List.length_append, List.length_cons, List.length_nil]; omega) rfl) rfl)) rfl ?_
              refine rg_put (d := 9) (v := .ow 118) rfl (og rfl (op_assign rfl rfl rfl)) ?_
              refine rg_done rfl ?_
              show A _ _ _ _ _ _ _
              refine a_seq ?_
              refine a_rseq ?_
              refine rg_put (d := 131) (v := .pt 101 35) rfl (og rfl (of_eff (s_field_pt rfl Tryd.underlying64 rfl ti61 rfl rfl rfl) rfl)) ?_
              refine rg_put (d := 132) (v := .pt 101 36) rfl (og rfl (of_eff (s_field_pt rfl Tryd.underlying61 rfl ti53 rfl rfl rfl) rfl)) ?_
              refine rg_put (d := 133) (v := .d (.sl 7 (List.map eCg s.books.done))) rfl (og rfl (op_load_pt rfl Tryd.underlying53 rfl rfl rfl rfl rfl)) ?_
              refine rg_put (d := 134) (v := .d (.fl (.string key))) rfl (og rfl (op_move rfl rfl rfl)) ?_
              refine rg_put (d := 135) (v := .d (.fl (.int .i64 (cix s.books.done key)))) rfl (og rfl (op_call rfl Tryd.func41 nm41 rfl (.cons rfl (.d _) (.cons rfl (.d _) .nil)) (cix41 s.books.done key (by have := hT.2.2.1; omega)) rfl)) ?_
              refine rg_put (d := 136) (v := .d (.fl (.bool ((decide (0 ≤ (cix s.books.done key))))))) rfl (og rfl (op_bin rfl rfl rfl (b_geq _ _ _ _) rfl)) ?_
              refine rg_done rfl ?_
              refine a_cond rfl (fun h41 => ?_) (fun h41 => ?_)
              · skip
                have h42 := t_dec h41
                refine a_region ?_
                refine rg_put (d := 137) (v := .ow 118) rfl (og rfl (op_move rfl rfl rfl)) ?_
                refine rg_put (d := 138) (v := .d (.fl (.string key))) rfl (og rfl (op_move rfl rfl rfl)) ?_
                refine rg_put (d := 139) (v := .d (.ag (eFc ((Fc.mk (⟨#[112, 111, 115, 116, 101, 100]⟩) key 0))))) rfl (og rfl (of_eff (op_build rfl Tryd.underlying81 ti81 rfl (by kernel_rfl) (by kernel_rfl) (pl := #[(0, 1), (1, 1), (2, 1)]) (by kernel_rfl) (.cons rfl rfl (.d _) rfl rfl rfl (.cons rfl rfl (.d _) rfl rfl rfl .nil)) rfl) rfl)) ?_
                refine rg_put (d := 140) (v := .d (.sl 3 (List.map eFc ([(Fc.mk (⟨#[112, 111, 115, 116, 101, 100]⟩) key 0)])))) rfl (og rfl (of_eff (op_slices rfl Tryd.underlying69 ti81 rfl rfl rfl (by kernel_rfl) (xs := [.ag (eFc ((Fc.mk (⟨#[112, 111, 115, 116, 101, 100]⟩) key 0)))]) rfl rfl (.cons rfl rfl (.d _) rfl rfl rfl .nil) rfl) rfl)) ?_
                refine rg_nam (d := 141) (v := .ow 119) (m := 119) (nw := [(119, .tr 81 3 (tD eFc (((((([(Fc.mk ⟨#[99, 104, 97, 114, 103, 101]⟩ key 0)] ++ (cat gL (ix s.res.chg (cix s.res.chg key).toNat).lines (ix s.res.chg (cix s.res.chg key).toNat).lines.length)) ++ (tF s.res key)) ++ (yF s.res key)) ++ [(Fc.mk (⟨#[118, 101, 104, 105, 99, 108, 101]⟩) ((((ix s.res.chg ((cix s.res.chg key)).toNat))).veh) 17)]) ++ [(Fc.mk (⟨#[112, 111, 115, 116, 101, 100]⟩) key 0)])))), (118, .no)]) rfl (og rfl (of_eff (s_append_td 119 rfl Tryd.underlying69 ti81 rfl rfl rfl rfl rfl (.d _) (by simp only [List.length_append, List.length_cons, List.length_nil]; omega) rfl) rfl)) rfl ?_
                refine rg_put (d := 9) (v := .ow 119) rfl (og rfl (op_assign rfl rfl rfl)) ?_
                refine rg_done rfl ?_
                show A _ _ _ _ _ _ _
                refine a_rseq ?_
                refine rg_put (d := 142) (v := .ow 119) rfl (og rfl (op_move rfl rfl rfl)) ?_
                refine rg_put (d := 4) (v := .ow 119) rfl (og rfl (op_assign rfl rfl rfl)) ?_
                refine rg_put (d := 5) (v := .d (.fl (.int .i64 0))) rfl (og rfl (op_assign rfl rfl rfl)) ?_
                refine rg_done rfl ?_
                refine a_imp (imp_leakT 4 119 rfl rfl) ?_
                refine a_ret ?_
                show ∃ ds, ResL _ _ _ ds ∧ RV.of ds = _
                refine ⟨[.sl 3 (List.map eFc (((((([(Fc.mk ⟨#[99, 104, 97, 114, 103, 101]⟩ key 0)] ++ (cat gL (ix s.res.chg (cix s.res.chg key).toNat).lines (ix s.res.chg (cix s.res.chg key).toNat).lines.length)) ++ (tF s.res key)) ++ (yF s.res key)) ++ [(Fc.mk (⟨#[118, 101, 104, 105, 99, 108, 101]⟩) ((((ix s.res.chg ((cix s.res.chg key)).toNat))).veh) 17)]) ++ [(Fc.mk (⟨#[112, 111, 115, 116, 101, 100]⟩) key 0)]))), .fl (.int .i64 0)], (.cons (.tmp rfl (.d _)) (.cons (.tmp rfl (.d _)) .nil)), ?_⟩
                have hu : chg s key = (((((([(Fc.mk ⟨#[99, 104, 97, 114, 103, 101]⟩ key 0)] ++ (cat gL (ix s.res.chg (cix s.res.chg key).toNat).lines (ix s.res.chg (cix s.res.chg key).toNat).lines.length)) ++ (tF s.res key)) ++ (yF s.res key)) ++ [(Fc.mk (⟨#[118, 101, 104, 105, 99, 108, 101]⟩) ((((ix s.res.chg ((cix s.res.chg key)).toNat))).veh) 17)]) ++ [(Fc.mk (⟨#[112, 111, 115, 116, 101, 100]⟩) key 0)]), 0) := by rw [chg_yes h1, aF_no h37, pF_yes (hasK_of h41)]; try simp only [List.append_assoc, List.cons_append, List.nil_append, List.append_nil]
                rw [hu]; rfl
              · skip
                have h43 := f_dec h41
                refine a_skip ?_
                show A _ _ _ _ _ _ _
                refine a_rseq ?_
                refine rg_put (d := 142) (v := .ow 118) rfl (og rfl (op_move rfl rfl rfl)) ?_
                refine rg_put (d := 4) (v := .ow 118) rfl (og rfl (op_assign rfl rfl rfl)) ?_
                refine rg_put (d := 5) (v := .d (.fl (.int .i64 0))) rfl (og rfl (op_assign rfl rfl rfl)) ?_
                refine rg_done rfl ?_
                refine a_imp (imp_leakT 4 118 rfl rfl) ?_
                refine a_ret ?_
                show ∃ ds, ResL _ _ _ ds ∧ RV.of ds = _
                refine ⟨[.sl 3 (List.map eFc ((((([(Fc.mk ⟨#[99, 104, 97, 114, 103, 101]⟩ key 0)] ++ (cat gL (ix s.res.chg (cix s.res.chg key).toNat).lines (ix s.res.chg (cix s.res.chg key).toNat).lines.length)) ++ (tF s.res key)) ++ (yF s.res key)) ++ [(Fc.mk (⟨#[118, 101, 104, 105, 99, 108, 101]⟩) ((((ix s.res.chg ((cix s.res.chg key)).toNat))).veh) 17)]))), .fl (.int .i64 0)], (.cons (.tmp rfl (.d _)) (.cons (.tmp rfl (.d _)) .nil)), ?_⟩
                have hu : chg s key = ((((([(Fc.mk ⟨#[99, 104, 97, 114, 103, 101]⟩ key 0)] ++ (cat gL (ix s.res.chg (cix s.res.chg key).toNat).lines (ix s.res.chg (cix s.res.chg key).toNat).lines.length)) ++ (tF s.res key)) ++ (yF s.res key)) ++ [(Fc.mk (⟨#[118, 101, 104, 105, 99, 108, 101]⟩) ((((ix s.res.chg ((cix s.res.chg key)).toNat))).veh) 17)]), 0) := by rw [chg_yes h1, aF_no h37, pF_no (hasK_of h41)]; try simp only [List.append_assoc, List.cons_append, List.nil_append, List.append_nil]
                rw [hu]; rfl
          · skip
            have h44 := t_dec h35
            refine rg_put (d := 84) (v := .d (.fl (.bool p.2))) rfl (oy rfl rfl rfl h35 (op_move rfl rfl rfl)) ?_
            refine rg_put (d := 85) (v := .d (.fl (.bool (!p.2)))) rfl (oy rfl rfl rfl h35 (op_un rfl rfl (u_not _) rfl)) ?_
            refine rg_put (d := 86) (v := .d (.fl (.bool (!p.2)))) rfl (og rfl (op_pick rfl rfl (by rw [h35]; rfl) rfl)) ?_
            refine rg_done rfl ?_
            refine a_cond rfl (fun h45 => ?_) (fun h45 => ?_)
            · skip
              have h46 := t_not h45
              refine a_skip ?_
              show A _ _ _ _ _ _ _
              refine a_seq ?_
              refine a_block ?_
              refine a_rseq ?_
              refine rg_put (d := 89) (v := .d (.fl (.string key))) rfl (og rfl (op_move rfl rfl rfl)) ?_
              refine rg_put (d := 90) (v := .pt 102 3) rfl (og rfl (of_eff (s_field_pt rfl Tryd.underlying56 rfl ti52 rfl rfl rfl) rfl)) ?_
              refine rg_put (d := 91) (v := .d (.sl 5 (List.map eSy s.res.stays))) rfl (og rfl (op_load_pt rfl Tryd.underlying52 rfl rfl rfl rfl rfl)) ?_
              refine rg_put (d := 92) (v := .d (.fl (.int .i64 (p.1 : Int)))) rfl (og rfl (op_move rfl rfl rfl)) ?_
              refine rg_put (d := 93) (v := .el ((eSy (ix s.res.stays p.1)))) rfl (og rfl (s_index rfl Tryd.underlying52 ti126 rfl rfl (by omega) (row_at (by omega)) rfl)) ?_
              refine rg_put (d := 94) (v := .el ((List.drop 0 ((eSy (ix s.res.stays p.1)))))) rfl (og rfl (of_eff (s_field_el rfl Tryd.underlying126 rfl ti9 rfl rfl rfl) rfl)) ?_
              refine rg_put (d := 95) (v := .d (.fl (.string ((ix s.res.stays p.1).id)))) rfl (og rfl (op_load_el rfl Tryd.underlying9 rfl rfl rfl rfl)) ?_
              refine rg_put (d := 96) (v := .d (.fl (.string (((⟨#[112, 58]⟩ : ByteArray) ++ ((ix s.res.stays p.1).id)))))) rfl (og rfl (op_bin rfl rfl rfl (fun ox oy ow => b_sadd _ _ _ ox oy ow (by have := hT.2.2.2.2.2.2.1 p.1 (by omega); show 2 + (ix s.res.stays p.1).id.size ≤ _; omega)) rfl)) ?_
              refine rg_put (d := 97) (v := .d (.fl (.bool ((sEq key (((⟨#[112, 58]⟩ : ByteArray) ++ ((ix s.res.stays p.1).id)))))))) rfl (og rfl (op_bin rfl rfl rfl (b_seq _ _ _) rfl)) ?_
              refine rg_done rfl ?_
              refine a_cond rfl (fun h47 => ?_) (fun h47 => ?_)
              · skip
                refine a_rseq ?_
                refine rg_put (d := 98) (v := .ow 104) rfl (og rfl (op_move rfl rfl rfl)) ?_
                refine rg_put (d := 99) (v := .pt 102 3) rfl (og rfl (of_eff (s_field_pt rfl Tryd.underlying56 rfl ti52 rfl rfl rfl) rfl)) ?_
                refine rg_put (d := 100) (v := .d (.sl 5 (List.map eSy s.res.stays))) rfl (og rfl (op_load_pt rfl Tryd.underlying52 rfl rfl rfl rfl rfl)) ?_
                refine rg_put (d := 101) (v := .d (.fl (.int .i64 (p.1 : Int)))) rfl (og rfl (op_move rfl rfl rfl)) ?_
                refine rg_put (d := 102) (v := .el ((eSy (ix s.res.stays p.1)))) rfl (og rfl (s_index rfl Tryd.underlying52 ti126 rfl rfl (by omega) (row_at (by omega)) rfl)) ?_
                refine rg_put (d := 103) (v := .el ((List.drop 0 ((eSy (ix s.res.stays p.1)))))) rfl (og rfl (of_eff (s_field_el rfl Tryd.underlying126 rfl ti9 rfl rfl rfl) rfl)) ?_
                refine rg_put (d := 104) (v := .d (.fl (.string ((ix s.res.stays p.1).id)))) rfl (og rfl (op_load_el rfl Tryd.underlying9 rfl rfl rfl rfl)) ?_
                refine rg_put (d := 105) (v := .d (.ag (eFc ((Fc.mk (⟨#[115, 116, 97, 121]⟩) ((ix s.res.stays p.1).id) 0))))) rfl (og rfl (of_eff (op_build rfl Tryd.underlying81 ti81 rfl (by kernel_rfl) (by kernel_rfl) (pl := #[(0, 1), (1, 1), (2, 1)]) (by kernel_rfl) (.cons rfl rfl (.d _) rfl rfl rfl (.cons rfl rfl (.d _) rfl rfl rfl .nil)) rfl) rfl)) ?_
                refine rg_put (d := 106) (v := .d (.sl 3 (List.map eFc ([(Fc.mk (⟨#[115, 116, 97, 121]⟩) ((ix s.res.stays p.1).id) 0)])))) rfl (og rfl (of_eff (op_slices rfl Tryd.underlying69 ti81 rfl rfl rfl (by kernel_rfl) (xs := [.ag (eFc ((Fc.mk (⟨#[115, 116, 97, 121]⟩) ((ix s.res.stays p.1).id) 0)))]) rfl rfl (.cons rfl rfl (.d _) rfl rfl rfl .nil) rfl) rfl)) ?_
                refine rg_nam (d := 107) (v := .ow 120) (m := 120) (nw := [(120, .tr 81 3 (tD eFc ((((([(Fc.mk ⟨#[99, 104, 97, 114, 103, 101]⟩ key 0)] ++ (cat gL (ix s.res.chg (cix s.res.chg key).toNat).lines (ix s.res.chg (cix s.res.chg key).toNat).lines.length)) ++ (tF s.res key)) ++ (yB s.res key p.2)) ++ [(Fc.mk (⟨#[115, 116, 97, 121]⟩) ((ix s.res.stays p.1).id) 0)])))), (104, .no)]) rfl (og rfl (of_eff (s_append_td 120 rfl Tryd.underlying69 ti81 rfl rfl rfl rfl rfl (.d _) (by simp only [List.length_append, List.length_cons, List.length_nil]; omega) rfl) rfl)) rfl ?_
                refine rg_put (d := 9) (v := .ow 120) rfl (og rfl (op_assign rfl rfl rfl)) ?_
                refine rg_done rfl ?_
                refine a_region ?_
                refine rg_put (d := 11) (v := .d (.fl (.bool true))) rfl (og rfl (op_assign rfl rfl rfl)) ?_
                refine rg_done rfl ?_
                show A _ _ _ _ _ _ _
                refine a_region ?_
                refine rg_put (d := 87) (v := .d (.fl (.int .i64 (p.1 : Int)))) rfl (og rfl (op_move rfl rfl rfl)) ?_
                refine rg_put (d := 88) (v := .d (.fl (.int .i64 (((p.1 : Int) + 1))))) rfl (og rfl (op_bin rfl rfl rfl (fun x y w => b_add64 _ _ _ x y w (by omega)) rfl)) ?_
                refine rg_put (d := 13) (v := .d (.fl (.int .i64 (((p.1 : Int) + 1))))) rfl (og rfl (op_assign rfl rfl rfl)) ?_
                refine rg_done rfl ?_
                have hm : sEq (pk (ix s.res.stays p.1).id) key = true := (sEq_comm _ _).trans h47
                have hf2 := hok.2 h46
                have hg := yF_at (by omega) hf2 hm
                have hb : yB s.res key p.2 = [] := by rw [h46]; rfl
                show ∃ i, _ ∧ _ ∧ Imp _ _ _ _ _
                refine ⟨(p.1 + 1, true), ⟨by show p.1 + 1 ≤ _; omega, fun h => by cases h⟩, by show _ - (p.1 + 1) < _ - p.1; omega, imp_ren (fun m => bif Nat.beq m 104 then 120 else m) rfl ⟨rfl, rfl, rfl, rfl, rfl, rfl, rfl, rfl, rfl, rfl, rfl, rfl, rfl, (ci (show ((p.1 : Nat) : Int) + 1 = ((p.1 + 1 : Nat) : Int) by omega)), rfl, rfl, trivial⟩ ⟨rfl, rfl, rfl, (congrArg (fun z => Ob.tr 81 3 (tD eFc z)) (by rw [hb, List.append_nil]; show _ = (([(Fc.mk ⟨#[99, 104, 97, 114, 103, 101]⟩ key 0)] ++ (cat gL (ix s.res.chg (cix s.res.chg key).toNat).lines (ix s.res.chg (cix s.res.chg key).toNat).lines.length)) ++ (tF s.res key)) ++ yF s.res key; rw [hg])), trivial⟩⟩
              · skip
                refine a_skip ?_
                show A _ _ _ _ _ _ _
                refine a_region ?_
                refine rg_put (d := 87) (v := .d (.fl (.int .i64 (p.1 : Int)))) rfl (og rfl (op_move rfl rfl rfl)) ?_
                refine rg_put (d := 88) (v := .d (.fl (.int .i64 (((p.1 : Int) + 1))))) rfl (og rfl (op_bin rfl rfl rfl (fun x y w => b_add64 _ _ _ x y w (by omega)) rfl)) ?_
                refine rg_put (d := 13) (v := .d (.fl (.int .i64 (((p.1 : Int) + 1))))) rfl (og rfl (op_assign rfl rfl rfl)) ?_
                refine rg_done rfl ?_
                have hm : sEq (pk (ix s.res.stays p.1).id) key = false := (sEq_comm _ _).trans h47
                have hf2 := hok.2 h46
                show ∃ i, _ ∧ _ ∧ Imp _ _ _ _ _
                refine ⟨(p.1 + 1, p.2), ⟨by show p.1 + 1 ≤ _; omega, fun _ q h => (Nat.lt_succ_iff_lt_or_eq.1 h).elim (hf2 q) (fun e => by rw [e]; exact hm)⟩, by show _ - (p.1 + 1) < _ - p.1; omega, imp_forget rfl ⟨rfl, rfl, rfl, rfl, rfl, rfl, rfl, rfl, rfl, rfl, rfl, rfl, rfl, (ci (show ((p.1 : Nat) : Int) + 1 = ((p.1 + 1 : Nat) : Int) by omega)), rfl, rfl, trivial⟩ ⟨rfl, rfl, rfl, rfl, trivial⟩⟩
            · skip
              have h48 := f_not h45
              refine a_exit ?_
              show A _ _ _ _ _ _ _
              refine a_rseq ?_
              have ht : yB s.res key p.2 = yF s.res key := yB_end (fun hf => by rw [h48] at hf; cases hf)
              rw [show (yB s.res key p.2) = (yF s.res key) from ht]
              have htl := tF_len (r := s.res) (key := key) hT
              have hyl := yF_len (r := s.res) (key := key)
              refine rg_put (d := 109) (v := .pt 101 0) rfl (og rfl (of_eff (s_field_pt rfl Tryd.underlying64 rfl ti46 rfl rfl rfl) rfl)) ?_
              refine rg_put (d := 110) (v := .pt 101 17) rfl (og rfl (of_eff (s_field_pt rfl Tryd.underlying46 rfl ti40 rfl rfl rfl) rfl)) ?_
              refine rg_put (d := 111) (v := .d (.sl 9 (List.map eAc s.cfg.acc))) rfl (og rfl (op_load_pt rfl Tryd.underlying40 rfl rfl rfl rfl rfl)) ?_
              refine rg_put (d := 112) (v := .pt 103 1) rfl (og rfl (of_eff (s_field_pt rfl Tryd.underlying93 rfl ti9 rfl rfl rfl) rfl)) ?_
              refine rg_put (d := 113) (v := .d (.fl (.string ((((ix s.res.chg ((cix s.res.chg key)).toNat))).veh)))) rfl (og rfl (op_load_pt rfl Tryd.underlying9 rfl rfl rfl rfl rfl)) ?_
              refine rg_put (d := 114) (v := .pt 103 4) rfl (og rfl (of_eff (s_field_pt rfl Tryd.underlying93 rfl ti3 rfl rfl rfl) rfl)) ?_
              refine rg_put (d := 115) (v := .d (.fl (.int .i64 ((((ix s.res.chg ((cix s.res.chg key)).toNat))).time)))) rfl (og rfl (op_load_pt rfl Tryd.underlying3 rfl rfl rfl rfl rfl)) ?_
              refine rg_put (d := 116) (v := .tu [.fl (.string ((own s.cfg.acc ((((ix s.res.chg ((cix s.res.chg key)).toNat))).veh) ((((ix s.res.chg ((cix s.res.chg key)).toNat))).time)).1)), .fl (.bool ((own s.cfg.acc ((((ix s.res.chg ((cix s.res.chg key)).toNat))).veh) ((((ix s.res.chg ((cix s.res.chg key)).toNat))).time)).2))]) rfl (og rfl (op_call rfl Tryd.func43 nm43 rfl (.cons rfl (.d _) (.cons rfl (.d _) (.cons rfl (.d _) .nil))) (own43 s.cfg.acc ((((ix s.res.chg ((cix s.res.chg key)).toNat))).veh) ((((ix s.res.chg ((cix s.res.chg key)).toNat))).time) (by omega) hs5) rfl)) ?_
              refine rg_put (d := 108) (v := .tu [.fl (.string ((own s.cfg.acc ((((ix s.res.chg ((cix s.res.chg key)).toNat))).veh) ((((ix s.res.chg ((cix s.res.chg key)).toNat))).time)).1)), .fl (.bool ((own s.cfg.acc ((((ix s.res.chg ((cix s.res.chg key)).toNat))).veh) ((((ix s.res.chg ((cix s.res.chg key)).toNat))).time)).2))]) rfl (og rfl (op_move rfl rfl rfl)) ?_
              refine rg_put (d := 117) (v := .d (.fl (.string ((own s.cfg.acc ((((ix s.res.chg ((cix s.res.chg key)).toNat))).veh) ((((ix s.res.chg ((cix s.res.chg key)).toNat))).time)).1)))) rfl (og rfl (op_extract rfl rfl rfl rfl)) ?_
              refine rg_put (d := 118) (v := .d (.fl (.bool ((own s.cfg.acc ((((ix s.res.chg ((cix s.res.chg key)).toNat))).veh) ((((ix s.res.chg ((cix s.res.chg key)).toNat))).time)).2)))) rfl (og rfl (op_extract rfl rfl rfl rfl)) ?_
              refine rg_put (d := 14) (v := .d (.fl (.string ((own s.cfg.acc ((((ix s.res.chg ((cix s.res.chg key)).toNat))).veh) ((((ix s.res.chg ((cix s.res.chg key)).toNat))).time)).1)))) rfl (og rfl (op_assign rfl rfl rfl)) ?_
              refine rg_put (d := 15) (v := .d (.fl (.bool ((own s.cfg.acc ((((ix s.res.chg ((cix s.res.chg key)).toNat))).veh) ((((ix s.res.chg ((cix s.res.chg key)).toNat))).time)).2)))) rfl (og rfl (op_assign rfl rfl rfl)) ?_
              refine rg_done rfl ?_
              refine a_seq ?_
              refine a_rseq ?_
              refine rg_put (d := 119) (v := .d (.fl (.bool ((own s.cfg.acc ((((ix s.res.chg ((cix s.res.chg key)).toNat))).veh) ((((ix s.res.chg ((cix s.res.chg key)).toNat))).time)).2)))) rfl (og rfl (op_move rfl rfl rfl)) ?_
              refine rg_done rfl ?_
              refine a_cond rfl (fun h49 => ?_) (fun h49 => ?_)
              · skip
                refine a_region ?_
                refine rg_put (d := 120) (v := .ow 104) rfl (og rfl (op_move rfl rfl rfl)) ?_
                refine rg_put (d := 121) (v := .d (.fl (.string ((own s.cfg.acc ((((ix s.res.chg ((cix s.res.chg key)).toNat))).veh) ((((ix s.res.chg ((cix s.res.chg key)).toNat))).time)).1)))) rfl (og rfl (op_move rfl rfl rfl)) ?_
                refine rg_put (d := 122) (v := .d (.ag (eFc ((Fc.mk (⟨#[97, 99, 99, 111, 117, 110, 116]⟩) ((own s.cfg.acc ((((ix s.res.chg ((cix s.res.chg key)).toNat))).veh) ((((ix s.res.chg ((cix s.res.chg key)).toNat))).time)).1) 0))))) rfl (og rfl (of_eff (op_build rfl Tryd.underlying81 ti81 rfl (by kernel_rfl) (by kernel_rfl) (pl := #[(0, 1), (1, 1), (2, 1)]) (by kernel_rfl) (.cons rfl rfl (.d _) rfl rfl rfl (.cons rfl rfl (.d _) rfl rfl rfl .nil)) rfl) rfl)) ?_
                refine rg_put (d := 123) (v := .d (.sl 3 (List.map eFc ([(Fc.mk (⟨#[97, 99, 99, 111, 117, 110, 116]⟩) ((own s.cfg.acc ((((ix s.res.chg ((cix s.res.chg key)).toNat))).veh) ((((ix s.res.chg ((cix s.res.chg key)).toNat))).time)).1) 0)])))) rfl (og rfl (of_eff (op_slices rfl Tryd.underlying69 ti81 rfl rfl rfl (by kernel_rfl) (xs := [.ag (eFc ((Fc.mk (⟨#[97, 99, 99, 111, 117, 110, 116]⟩) ((own s.cfg.acc ((((ix s.res.chg ((cix s.res.chg key)).toNat))).veh) ((((ix s.res.chg ((cix s.res.chg key)).toNat))).time)).1) 0)))]) rfl rfl (.cons rfl rfl (.d _) rfl rfl rfl .nil) rfl) rfl)) ?_
                refine rg_nam (d := 124) (v := .ow 121) (m := 121) (nw := [(121, .tr 81 3 (tD eFc ((((([(Fc.mk ⟨#[99, 104, 97, 114, 103, 101]⟩ key 0)] ++ (cat gL (ix s.res.chg (cix s.res.chg key).toNat).lines (ix s.res.chg (cix s.res.chg key).toNat).lines.length)) ++ (tF s.res key)) ++ (yF s.res key)) ++ [(Fc.mk (⟨#[97, 99, 99, 111, 117, 110, 116]⟩) ((own s.cfg.acc ((((ix s.res.chg ((cix s.res.chg key)).toNat))).veh) ((((ix s.res.chg ((cix s.res.chg key)).toNat))).time)).1) 0)])))), (104, .no)]) rfl (og rfl (of_eff (s_append_td 121 rfl Tryd.underlying69 ti81 rfl rfl rfl rfl rfl (.d _) (by simp only [List.length_append, List.length_cons, List.length_nil]; omega) rfl) rfl)) rfl ?_
                refine rg_put (d := 9) (v := .ow 121) rfl (og rfl (op_assign rfl rfl rfl)) ?_
                refine rg_done rfl ?_
                show A _ _ _ _ _ _ _
                refine a_seq ?_
                refine a_rseq ?_
                refine rg_put (d := 131) (v := .pt 101 35) rfl (og rfl (of_eff (s_field_pt rfl Tryd.underlying64 rfl ti61 rfl rfl rfl) rfl)) ?_
                refine rg_put (d := 132) (v := .pt 101 36) rfl (og rfl (of_eff (s_field_pt rfl Tryd.underlying61 rfl ti53 rfl rfl rfl) rfl)) ?_
                refine rg_put (d := 133) (v := .d (.sl 7 (List.map eCg s.books.done))) rfl (og rfl (op_load_pt rfl Tryd.underlying53 rfl rfl rfl rfl rfl)) ?_
                refine rg_put (d := 134) (v := .d (.fl (.string key))) rfl (og rfl (op_move rfl rfl rfl)) ?_
                refine rg_put (d := 135) (v := .d (.fl (.int .i64 (cix s.books.done key)))) rfl (og rfl (op_call rfl Tryd.func41 nm41 rfl (.cons rfl (.d _) (.cons rfl (.d _) .nil)) (cix41 s.books.done key (by have := hT.2.2.1; omega)) rfl)) ?_
                refine rg_put (d := 136) (v := .d (.fl (.bool ((decide (0 ≤ (cix s.books.done key))))))) rfl (og rfl (op_bin rfl rfl rfl (b_geq _ _ _ _) rfl)) ?_
                refine rg_done rfl ?_
                refine a_cond rfl (fun h50 => ?_) (fun h50 => ?_)
                · skip
                  have h51 := t_dec h50
                  refine a_region ?_
                  refine rg_put (d := 137) (v := .ow 121) rfl (og rfl (op_move rfl rfl rfl)) ?_
                  refine rg_put (d := 138) (v := .d (.fl (.string key))) rfl (og rfl (op_move rfl rfl rfl)) ?_
                  refine rg_put (d := 139) (v := .d (.ag (eFc ((Fc.mk (⟨#[112, 111, 115, 116, 101, 100]⟩) key 0))))) rfl (og rfl (of_eff (op_build rfl Tryd.underlying81 ti81 rfl (by kernel_rfl) (by kernel_rfl) (pl := #[(0, 1), (1, 1), (2, 1)]) (by kernel_rfl) (.cons rfl rfl (.d _) rfl rfl rfl (.cons rfl rfl (.d _) rfl rfl rfl .nil)) rfl) rfl)) ?_
                  refine rg_put (d := 140) (v := .d (.sl 3 (List.map eFc ([(Fc.mk (⟨#[112, 111, 115, 116, 101, 100]⟩) key 0)])))) rfl (og rfl (of_eff (op_slices rfl Tryd.underlying69 ti81 rfl rfl rfl (by kernel_rfl) (xs := [.ag (eFc ((Fc.mk (⟨#[112, 111, 115, 116, 101, 100]⟩) key 0)))]) rfl rfl (.cons rfl rfl (.d _) rfl rfl rfl .nil) rfl) rfl)) ?_
                  refine rg_nam (d := 141) (v := .ow 122) (m := 122) (nw := [(122, .tr 81 3 (tD eFc (((((([(Fc.mk ⟨#[99, 104, 97, 114, 103, 101]⟩ key 0)] ++ (cat gL (ix s.res.chg (cix s.res.chg key).toNat).lines (ix s.res.chg (cix s.res.chg key).toNat).lines.length)) ++ (tF s.res key)) ++ (yF s.res key)) ++ [(Fc.mk (⟨#[97, 99, 99, 111, 117, 110, 116]⟩) ((own s.cfg.acc ((((ix s.res.chg ((cix s.res.chg key)).toNat))).veh) ((((ix s.res.chg ((cix s.res.chg key)).toNat))).time)).1) 0)]) ++ [(Fc.mk (⟨#[112, 111, 115, 116, 101, 100]⟩) key 0)])))), (121, .no)]) rfl (og rfl (of_eff (s_append_td 122 rfl Tryd.underlying69 ti81 rfl rfl rfl rfl rfl (.d _) (by simp only [List.length_append, List.length_cons, List.length_nil]; omega) rfl) rfl)) rfl ?_
                  refine rg_put (d := 9) (v := .ow 122) rfl (og rfl (op_assign rfl rfl rfl)) ?_
                  refine rg_done rfl ?_
                  show A _ _ _ _ _ _ _
                  refine a_rseq ?_
                  refine rg_put (d := 142) (v := .ow 122) rfl (og rfl (op_move rfl rfl rfl)) ?_
                  refine rg_put (d := 4) (v := .ow 122) rfl (og rfl (op_assign rfl rfl rfl)) ?_
                  refine rg_put (d := 5) (v := .d (.fl (.int .i64 0))) rfl (og rfl (op_assign rfl rfl rfl)) ?_
                  refine rg_done rfl ?_
                  refine a_imp (imp_leakT 4 122 rfl rfl) ?_
                  refine a_ret ?_
                  show ∃ ds, ResL _ _ _ ds ∧ RV.of ds = _
                  refine ⟨[.sl 3 (List.map eFc (((((([(Fc.mk ⟨#[99, 104, 97, 114, 103, 101]⟩ key 0)] ++ (cat gL (ix s.res.chg (cix s.res.chg key).toNat).lines (ix s.res.chg (cix s.res.chg key).toNat).lines.length)) ++ (tF s.res key)) ++ (yF s.res key)) ++ [(Fc.mk (⟨#[97, 99, 99, 111, 117, 110, 116]⟩) ((own s.cfg.acc ((((ix s.res.chg ((cix s.res.chg key)).toNat))).veh) ((((ix s.res.chg ((cix s.res.chg key)).toNat))).time)).1) 0)]) ++ [(Fc.mk (⟨#[112, 111, 115, 116, 101, 100]⟩) key 0)]))), .fl (.int .i64 0)], (.cons (.tmp rfl (.d _)) (.cons (.tmp rfl (.d _)) .nil)), ?_⟩
                  have hu : chg s key = (((((([(Fc.mk ⟨#[99, 104, 97, 114, 103, 101]⟩ key 0)] ++ (cat gL (ix s.res.chg (cix s.res.chg key).toNat).lines (ix s.res.chg (cix s.res.chg key).toNat).lines.length)) ++ (tF s.res key)) ++ (yF s.res key)) ++ [(Fc.mk (⟨#[97, 99, 99, 111, 117, 110, 116]⟩) ((own s.cfg.acc ((((ix s.res.chg ((cix s.res.chg key)).toNat))).veh) ((((ix s.res.chg ((cix s.res.chg key)).toNat))).time)).1) 0)]) ++ [(Fc.mk (⟨#[112, 111, 115, 116, 101, 100]⟩) key 0)]), 0) := by rw [chg_yes h1, aF_yes h49, pF_yes (hasK_of h50)]; try simp only [List.append_assoc, List.cons_append, List.nil_append, List.append_nil]
                  rw [hu]; rfl
                · skip
                  have h52 := f_dec h50
                  refine a_skip ?_
                  show A _ _ _ _ _ _ _
                  refine a_rseq ?_
                  refine rg_put (d := 142) (v := .ow 121) rfl (og rfl (op_move rfl rfl rfl)) ?_
                  refine rg_put (d := 4) (v := .ow 121) rfl (og rfl (op_assign rfl rfl rfl)) ?_
                  refine rg_put (d := 5) (v := .d (.fl (.int .i64 0))) rfl (og rfl (op_assign rfl rfl rfl)) ?_
                  refine rg_done rfl ?_
                  refine a_imp (imp_leakT 4 121 rfl rfl) ?_
                  refine a_ret ?_
                  show ∃ ds, ResL _ _ _ ds ∧ RV.of ds = _
                  refine ⟨[.sl 3 (List.map eFc ((((([(Fc.mk ⟨#[99, 104, 97, 114, 103, 101]⟩ key 0)] ++ (cat gL (ix s.res.chg (cix s.res.chg key).toNat).lines (ix s.res.chg (cix s.res.chg key).toNat).lines.length)) ++ (tF s.res key)) ++ (yF s.res key)) ++ [(Fc.mk (⟨#[97, 99, 99, 111, 117, 110, 116]⟩) ((own s.cfg.acc ((((ix s.res.chg ((cix s.res.chg key)).toNat))).veh) ((((ix s.res.chg ((cix s.res.chg key)).toNat))).time)).1) 0)]))), .fl (.int .i64 0)], (.cons (.tmp rfl (.d _)) (.cons (.tmp rfl (.d _)) .nil)), ?_⟩
                  have hu : chg s key = ((((([(Fc.mk ⟨#[99, 104, 97, 114, 103, 101]⟩ key 0)] ++ (cat gL (ix s.res.chg (cix s.res.chg key).toNat).lines (ix s.res.chg (cix s.res.chg key).toNat).lines.length)) ++ (tF s.res key)) ++ (yF s.res key)) ++ [(Fc.mk (⟨#[97, 99, 99, 111, 117, 110, 116]⟩) ((own s.cfg.acc ((((ix s.res.chg ((cix s.res.chg key)).toNat))).veh) ((((ix s.res.chg ((cix s.res.chg key)).toNat))).time)).1) 0)]), 0) := by rw [chg_yes h1, aF_yes h49, pF_no (hasK_of h50)]; try simp only [List.append_assoc, List.cons_append, List.nil_append, List.append_nil]
                  rw [hu]; rfl
              · skip
                refine a_region ?_
                refine rg_put (d := 125) (v := .ow 104) rfl (og rfl (op_move rfl rfl rfl)) ?_
                refine rg_put (d := 126) (v := .pt 103 1) rfl (og rfl (of_eff (s_field_pt rfl Tryd.underlying93 rfl ti9 rfl rfl rfl) rfl)) ?_
                refine rg_put (d := 127) (v := .d (.fl (.string ((((ix s.res.chg ((cix s.res.chg key)).toNat))).veh)))) rfl (og rfl (op_load_pt rfl Tryd.underlying9 rfl rfl rfl rfl rfl)) ?_
                refine rg_put (d := 128) (v := .d (.ag (eFc ((Fc.mk (⟨#[118, 101, 104, 105, 99, 108, 101]⟩) ((((ix s.res.chg ((cix s.res.chg key)).toNat))).veh) 17))))) rfl (og rfl (of_eff (op_build rfl Tryd.underlying81 ti81 rfl (by kernel_rfl) (by kernel_rfl) (pl := #[(0, 1), (1, 1), (2, 1)]) (by kernel_rfl) (.cons rfl rfl (.d _) rfl rfl rfl (.cons rfl rfl (.d _) rfl rfl rfl (.cons rfl rfl (.d _) rfl rfl rfl .nil))) rfl) rfl)) ?_
                refine rg_put (d := 129) (v := .d (.sl 3 (List.map eFc ([(Fc.mk (⟨#[118, 101, 104, 105, 99, 108, 101]⟩) ((((ix s.res.chg ((cix s.res.chg key)).toNat))).veh) 17)])))) rfl (og rfl (of_eff (op_slices rfl Tryd.underlying69 ti81 rfl rfl rfl (by kernel_rfl) (xs := [.ag (eFc ((Fc.mk (⟨#[118, 101, 104, 105, 99, 108, 101]⟩) ((((ix s.res.chg ((cix s.res.chg key)).toNat))).veh) 17)))]) rfl rfl (.cons rfl rfl (.d _) rfl rfl rfl .nil) rfl) rfl)) ?_
                refine rg_nam (d := 130) (v := .ow 123) (m := 123) (nw := [(123, .tr 81 3 (tD eFc ((((([(Fc.mk ⟨#[99, 104, 97, 114, 103, 101]⟩ key 0)] ++ (cat gL (ix s.res.chg (cix s.res.chg key).toNat).lines (ix s.res.chg (cix s.res.chg key).toNat).lines.length)) ++ (tF s.res key)) ++ (yF s.res key)) ++ [(Fc.mk (⟨#[118, 101, 104, 105, 99, 108, 101]⟩) ((((ix s.res.chg ((cix s.res.chg key)).toNat))).veh) 17)])))), (104, .no)]) rfl (og rfl (of_eff (s_append_td 123 rfl Tryd.underlying69 ti81 rfl rfl rfl rfl rfl (.d _) (by simp only [List.length_append, List.length_cons, List.length_nil]; omega) rfl) rfl)) rfl ?_
                refine rg_put (d := 9) (v := .ow 123) rfl (og rfl (op_assign rfl rfl rfl)) ?_
                refine rg_done rfl ?_
                show A _ _ _ _ _ _ _
                refine a_seq ?_
                refine a_rseq ?_
                refine rg_put (d := 131) (v := .pt 101 35) rfl (og rfl (of_eff (s_field_pt rfl Tryd.underlying64 rfl ti61 rfl rfl rfl) rfl)) ?_
                refine rg_put (d := 132) (v := .pt 101 36) rfl (og rfl (of_eff (s_field_pt rfl Tryd.underlying61 rfl ti53 rfl rfl rfl) rfl)) ?_
                refine rg_put (d := 133) (v := .d (.sl 7 (List.map eCg s.books.done))) rfl (og rfl (op_load_pt rfl Tryd.underlying53 rfl rfl rfl rfl rfl)) ?_
                refine rg_put (d := 134) (v := .d (.fl (.string key))) rfl (og rfl (op_move rfl rfl rfl)) ?_
                refine rg_put (d := 135) (v := .d (.fl (.int .i64 (cix s.books.done key)))) rfl (og rfl (op_call rfl Tryd.func41 nm41 rfl (.cons rfl (.d _) (.cons rfl (.d _) .nil)) (cix41 s.books.done key (by have := hT.2.2.1; omega)) rfl)) ?_
                refine rg_put (d := 136) (v := .d (.fl (.bool ((decide (0 ≤ (cix s.books.done key))))))) rfl (og rfl (op_bin rfl rfl rfl (b_geq _ _ _ _) rfl)) ?_
                refine rg_done rfl ?_
                refine a_cond rfl (fun h53 => ?_) (fun h53 => ?_)
                · skip
                  have h54 := t_dec h53
                  refine a_region ?_
                  refine rg_put (d := 137) (v := .ow 123) rfl (og rfl (op_move rfl rfl rfl)) ?_
                  refine rg_put (d := 138) (v := .d (.fl (.string key))) rfl (og rfl (op_move rfl rfl rfl)) ?_
                  refine rg_put (d := 139) (v := .d (.ag (eFc ((Fc.mk (⟨#[112, 111, 115, 116, 101, 100]⟩) key 0))))) rfl (og rfl (of_eff (op_build rfl Tryd.underlying81 ti81 rfl (by kernel_rfl) (by kernel_rfl) (pl := #[(0, 1), (1, 1), (2, 1)]) (by kernel_rfl) (.cons rfl rfl (.d _) rfl rfl rfl (.cons rfl rfl (.d _) rfl rfl rfl .nil)) rfl) rfl)) ?_
                  refine rg_put (d := 140) (v := .d (.sl 3 (List.map eFc ([(Fc.mk (⟨#[112, 111, 115, 116, 101, 100]⟩) key 0)])))) rfl (og rfl (of_eff (op_slices rfl Tryd.underlying69 ti81 rfl rfl rfl (by kernel_rfl) (xs := [.ag (eFc ((Fc.mk (⟨#[112, 111, 115, 116, 101, 100]⟩) key 0)))]) rfl rfl (.cons rfl rfl (.d _) rfl rfl rfl .nil) rfl) rfl)) ?_
                  refine rg_nam (d := 141) (v := .ow 124) (m := 124) (nw := [(124, .tr 81 3 (tD eFc (((((([(Fc.mk ⟨#[99, 104, 97, 114, 103, 101]⟩ key 0)] ++ (cat gL (ix s.res.chg (cix s.res.chg key).toNat).lines (ix s.res.chg (cix s.res.chg key).toNat).lines.length)) ++ (tF s.res key)) ++ (yF s.res key)) ++ [(Fc.mk (⟨#[118, 101, 104, 105, 99, 108, 101]⟩) ((((ix s.res.chg ((cix s.res.chg key)).toNat))).veh) 17)]) ++ [(Fc.mk (⟨#[112, 111, 115, 116, 101, 100]⟩) key 0)])))), (123, .no)]) rfl (og rfl (of_eff (s_append_td 124 rfl Tryd.underlying69 ti81 rfl rfl rfl rfl rfl (.d _) (by simp only [List.length_append, List.length_cons, List.length_nil]; omega) rfl) rfl)) rfl ?_
                  refine rg_put (d := 9) (v := .ow 124) rfl (og rfl (op_assign rfl rfl rfl)) ?_
                  refine rg_done rfl ?_
                  show A _ _ _ _ _ _ _
                  refine a_rseq ?_
                  refine rg_put (d := 142) (v := .ow 124) rfl (og rfl (op_move rfl rfl rfl)) ?_
                  refine rg_put (d := 4) (v := .ow 124) rfl (og rfl (op_assign rfl rfl rfl)) ?_
                  refine rg_put (d := 5) (v := .d (.fl (.int .i64 0))) rfl (og rfl (op_assign rfl rfl rfl)) ?_
                  refine rg_done rfl ?_
                  refine a_imp (imp_leakT 4 124 rfl rfl) ?_
                  refine a_ret ?_
                  show ∃ ds, ResL _ _ _ ds ∧ RV.of ds = _
                  refine ⟨[.sl 3 (List.map eFc (((((([(Fc.mk ⟨#[99, 104, 97, 114, 103, 101]⟩ key 0)] ++ (cat gL (ix s.res.chg (cix s.res.chg key).toNat).lines (ix s.res.chg (cix s.res.chg key).toNat).lines.length)) ++ (tF s.res key)) ++ (yF s.res key)) ++ [(Fc.mk (⟨#[118, 101, 104, 105, 99, 108, 101]⟩) ((((ix s.res.chg ((cix s.res.chg key)).toNat))).veh) 17)]) ++ [(Fc.mk (⟨#[112, 111, 115, 116, 101, 100]⟩) key 0)]))), .fl (.int .i64 0)], (.cons (.tmp rfl (.d _)) (.cons (.tmp rfl (.d _)) .nil)), ?_⟩
                  have hu : chg s key = (((((([(Fc.mk ⟨#[99, 104, 97, 114, 103, 101]⟩ key 0)] ++ (cat gL (ix s.res.chg (cix s.res.chg key).toNat).lines (ix s.res.chg (cix s.res.chg key).toNat).lines.length)) ++ (tF s.res key)) ++ (yF s.res key)) ++ [(Fc.mk (⟨#[118, 101, 104, 105, 99, 108, 101]⟩) ((((ix s.res.chg ((cix s.res.chg key)).toNat))).veh) 17)]) ++ [(Fc.mk (⟨#[112, 111, 115, 116, 101, 100]⟩) key 0)]), 0) := by rw [chg_yes h1, aF_no h49, pF_yes (hasK_of h53)]; try simp only [List.append_assoc, List.cons_append, List.nil_append, List.append_nil]
                  rw [hu]; rfl
                · skip
                  have h55 := f_dec h53
                  refine a_skip ?_
                  show A _ _ _ _ _ _ _
                  refine a_rseq ?_
                  refine rg_put (d := 142) (v := .ow 123) rfl (og rfl (op_move rfl rfl rfl)) ?_
                  refine rg_put (d := 4) (v := .ow 123) rfl (og rfl (op_assign rfl rfl rfl)) ?_
                  refine rg_put (d := 5) (v := .d (.fl (.int .i64 0))) rfl (og rfl (op_assign rfl rfl rfl)) ?_
                  refine rg_done rfl ?_
                  refine a_imp (imp_leakT 4 123 rfl rfl) ?_
                  refine a_ret ?_
                  show ∃ ds, ResL _ _ _ ds ∧ RV.of ds = _
                  refine ⟨[.sl 3 (List.map eFc ((((([(Fc.mk ⟨#[99, 104, 97, 114, 103, 101]⟩ key 0)] ++ (cat gL (ix s.res.chg (cix s.res.chg key).toNat).lines (ix s.res.chg (cix s.res.chg key).toNat).lines.length)) ++ (tF s.res key)) ++ (yF s.res key)) ++ [(Fc.mk (⟨#[118, 101, 104, 105, 99, 108, 101]⟩) ((((ix s.res.chg ((cix s.res.chg key)).toNat))).veh) 17)]))), .fl (.int .i64 0)], (.cons (.tmp rfl (.d _)) (.cons (.tmp rfl (.d _)) .nil)), ?_⟩
                  have hu : chg s key = ((((([(Fc.mk ⟨#[99, 104, 97, 114, 103, 101]⟩ key 0)] ++ (cat gL (ix s.res.chg (cix s.res.chg key).toNat).lines (ix s.res.chg (cix s.res.chg key).toNat).lines.length)) ++ (tF s.res key)) ++ (yF s.res key)) ++ [(Fc.mk (⟨#[118, 101, 104, 105, 99, 108, 101]⟩) ((((ix s.res.chg ((cix s.res.chg key)).toNat))).veh) 17)]), 0) := by rw [chg_yes h1, aF_no h49, pF_no (hasK_of h53)]; try simp only [List.append_assoc, List.cons_append, List.nil_append, List.append_nil]
                  rw [hu]; rfl
end Go.Proofs.YtgfbgkoifcacdaaDoor.Wk
