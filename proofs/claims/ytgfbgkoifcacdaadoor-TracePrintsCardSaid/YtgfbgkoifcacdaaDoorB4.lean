/- Names of sources, facts of the stops of a trip. Conditions: lists of at most 1000 elements, strings that are not too long. -/
import Derived.Test.YtgfbgkoifcacdaaDoorOFo
import Derived.Test.YtgfbgkoifcacdaaDoorB3
set_option linter.unusedSimpArgs false
set_option linter.unusedVariables false
namespace Go.Proofs.YtgfbgkoifcacdaaDoor.Wk
open Go Go.RowKit Go.Proofs.YtgfbgkoifcacdaaDoor.Av
def wds : List ByteArray := [⟨#[]⟩, ⟨#[117, 110, 107, 110, 111, 119, 110, 32, 100, 101, 118, 105, 99, 101]⟩, ⟨#[105, 110, 118, 97, 108, 105, 100, 32, 116, 105, 109, 101]⟩, ⟨#[109, 97, 108, 102, 111, 114, 109, 101, 100, 32, 114, 101, 97, 100, 105, 110, 103]⟩, ⟨#[99, 111, 110, 102, 108, 105, 99, 116, 105, 110, 103, 32, 114, 101, 112, 111, 114, 116, 115]⟩, ⟨#[111, 117, 116, 32, 111, 102, 32, 115, 101, 114, 118, 105, 99, 101]⟩, ⟨#[117, 110, 97, 115, 115, 105, 103, 110, 101, 100, 32, 97, 120, 108, 101, 115]⟩, ⟨#[108, 111, 119, 32, 99, 111, 110, 102, 105, 100, 101, 110, 99, 101]⟩, ⟨#[116, 111, 111, 32, 109, 97, 110, 121, 32, 100, 101, 116, 101, 99, 116, 105, 111, 110, 115]⟩, ⟨#[101, 108, 115, 101, 119, 104, 101, 114, 101, 32, 97, 116, 32, 116, 104, 97, 116, 32, 116, 105, 109, 101]⟩, ⟨#[110, 111, 32, 101, 110, 116, 114, 121]⟩, ⟨#[110, 111, 32, 101, 120, 105, 116]⟩, ⟨#[99, 104, 101, 99, 107, 32, 112, 111, 105, 110, 116, 115, 32, 97, 108, 111, 110, 101]⟩, ⟨#[110, 111, 32, 114, 97, 116, 101]⟩, ⟨#[119, 97, 105, 118, 101, 100, 32, 102, 111, 114, 32, 97, 110, 32, 111, 117, 116, 97, 103, 101]⟩, ⟨#[101, 120, 101, 109, 112, 116]⟩, ⟨#[99, 97, 112, 112, 101, 100]⟩, ⟨#[110, 111, 32, 97, 99, 99, 111, 117, 110, 116]⟩, ⟨#[97, 108, 114, 101, 97, 100, 121, 32, 112, 97, 105, 100]⟩]
/-- the words of the reasons, as the program lays them -/
def GS : List DV := wds.map fun s => .fl (.string s)
/-- what is known of the world: the words, and the library's table of powers of ten -/
def KK (w : World) (U : Nat → Nat) : Prop := Glo 0 GS w U ∧ Go.Proofs.YtgfbgkoifcacdaaDoor.Ow.Tb w
theorem kkst : KSt KK := kst_and (kst_glo 0 GS) (kst_w (T := Go.Proofs.YtgfbgkoifcacdaaDoor.Ow.Tb) (fun w w' h hb => Go.Proofs.YtgfbgkoifcacdaaDoor.Ow.Tb.next h hb))
def fm (n : Int) : ByteArray := Go.Proofs.YtgfbgkoifcacdaaDoor.Om.fmt n
def in64 (n : Int) : Prop := -9223372036854775808 ≤ n ∧ n ≤ 9223372036854775807
theorem fm54 (n : Int) (h : in64 n) : CtrK Tryd.prog KK 54 [.fl (.int .i64 n)] (.d (.fl (.string (fm n)))) := ctrK_flat [.int .i64 n] (fun w U hK => Go.Proofs.YtgfbgkoifcacdaaDoor.Ow.format21 n w h hK.2)
theorem fm59 (n : Int) (h : in64 n) : Ctr Tryd.prog 59 [.fl (.int .i64 n)] (.d (.fl (.string (fm n)))) := ctr_flat [.int .i64 n] (fun w => Go.Proofs.YtgfbgkoifcacdaaDoor.Ow.format22 n w h)
theorem dec_len : ∀ (k n : Nat), n < 10 ^ (k + 1) → (Lib.decDigits n).length ≤ k + 1
  | 0, n, h => by
    rw [Lib.decDigits, dif_pos (by omega)]
    simp
  | k + 1, n, h => by
    rw [Lib.decDigits]
    split
    · simp
    · rw [List.length_append]
      have := dec_len k (n / 10) (by rw [Nat.pow_succ] at h; omega)
      simp
      omega
theorem fm_size {n : Int} (h : in64 n) : (fm n).size ≤ 21 := by
  have h1 := dec_len 19 n.natAbs (by have := h.1; have := h.2; omega)
  unfold fm
  by_cases hn : n < 0
  · rw [Go.Proofs.YtgfbgkoifcacdaaDoor.Om.fmt_neg hn, ByteArray.size_append]
    show 1 + (Lib.decDigits n.natAbs).length ≤ 21
    omega
  · rw [Go.Proofs.YtgfbgkoifcacdaaDoor.Om.fmt_pos hn]
    show (Lib.decDigits n.natAbs).length ≤ 21
    omega
def nmS (x : So) : ByteArray := (x.dev ++ (⟨#[46]⟩ : ByteArray)) ++ fm x.seq
def okS (x : So) : Prop := x.dev.size ≤ 9000000000000000000 ∧ in64 x.seq

def gD (x : So) : List Fc := [Fc.mk ⟨#[100, 101, 116, 101, 99, 116, 105, 111, 110]⟩ (nmS x) 0]
def sF (r : Rs) (id : ByteArray) : List Fc := cat gD (ix r.pass (pix r.pass id).toNat).srcs (ix r.pass (pix r.pass id).toNat).srcs.length
def gS (r : Rs) (sp : Sp) : List Fc := if sEq sp.pass ⟨#[]⟩ = true then [Fc.mk ⟨#[105, 110, 102, 101, 114, 114, 101, 100]⟩ sp.point 0] else if decide (0 ≤ pix r.pass sp.pass) = true then [Fc.mk ⟨#[112, 97, 115, 115, 97, 103, 101]⟩ sp.pass 0] ++ sF r sp.pass else [Fc.mk ⟨#[112, 97, 115, 115, 97, 103, 101]⟩ sp.pass 0]
def okR (r : Rs) : Prop := r.pass.length ≤ 1000 ∧ ∀ q, q < r.pass.length → (ix r.pass q).srcs.length ≤ 1000 ∧ ∀ u, u < (ix r.pass q).srcs.length → okS (ix (ix r.pass q).srcs u)
theorem gD_len (x : So) : (gD x).length ≤ 1 := by unfold gD; simp
theorem pix_in (l : List Pg) (id : ByteArray) : -1 ≤ pix l id ∧ pix l id < (l.length : Int) := idx_in _ _
theorem gS_len {r : Rs} (h : okR r) (sp : Sp) : (gS r sp).length ≤ 1001 := by
  unfold gS
  split
  · simp
  · split
    · rename_i h2
      have h3 := of_decide_eq_true h2
      have h4 := pix_in r.pass sp.pass
      have h5 := (h.2 (pix r.pass sp.pass).toNat (by omega)).1
      have h6 := cat_len (g := gD) (l := (ix r.pass (pix r.pass sp.pass).toNat).srcs) (c := 1) (fun x _ => gD_len x) _ (Nat.le_refl _)
      unfold sF
      simp only [List.length_append, List.length_cons, List.length_nil]
      omega
    · simp
theorem gS_inf {r : Rs} {sp : Sp} (h : sEq sp.pass ⟨#[]⟩ = true) : gS r sp = [Fc.mk ⟨#[105, 110, 102, 101, 114, 114, 101, 100]⟩ sp.point 0] := if_pos h
theorem gS_no {r : Rs} {sp : Sp} (h : sEq sp.pass ⟨#[]⟩ = false) (h2 : decide (0 ≤ pix r.pass sp.pass) = false) : gS r sp = [Fc.mk ⟨#[112, 97, 115, 115, 97, 103, 101]⟩ sp.pass 0] := by unfold gS; rw [if_neg (by rw [h]; decide), if_neg (by rw [h2]; decide)]
theorem gS_yes {r : Rs} {sp : Sp} (h : sEq sp.pass ⟨#[]⟩ = false) (h2 : decide (0 ≤ pix r.pass sp.pass) = true) : gS r sp = [Fc.mk ⟨#[112, 97, 115, 115, 97, 103, 101]⟩ sp.pass 0] ++ sF r sp.pass := by unfold gS; rw [if_neg (by rw [h]; decide), if_pos h2]
theorem lt_ge {a : Int} {b : Bool} (h : decide (a < 0) = b) : decide (0 ≤ a) = !b := by
  subst h
  by_cases h1 : a < 0
  · rw [decide_eq_true h1, decide_eq_false (by omega)]; rfl
  · rw [decide_eq_false h1, decide_eq_true (by omega)]; rfl
theorem catD_le {r : Rs} {id : ByteArray} {j : Nat} (hr : okR r) (hj : pix r.pass id < 0 → j = 0) (hj2 : 0 ≤ pix r.pass id → j ≤ (ix r.pass (pix r.pass id).toNat).srcs.length) : (cat gD (ix r.pass (pix r.pass id).toNat).srcs j).length ≤ 1000 := by
  by_cases hn : pix r.pass id < 0
  · rw [hj hn]; show 0 ≤ 1000; omega
  · have h4 := pix_in r.pass id
    have h1 := cat_len (g := gD) (l := (ix r.pass (pix r.pass id).toNat).srcs) (c := 1) (fun x _ => gD_len x) j (hj2 (by omega))
    have h2 := (hr.2 (pix r.pass id).toNat (by omega)).1
    have h3 := hj2 (by omega)
    omega
theorem cat_mid {pre act y : List Fc} {r : Rs} {l : List Sp} {k : Nat} (hg : gS r (ix l k) = y) (h : act = (pre ++ cat (gS r) l k) ++ y) : act = pre ++ cat (gS r) l (k + 1) := cat_eq hg h

set_option maxHeartbeats 4000000 in
set_option maxRecDepth 100000 in
theorem name21 (x : So) (h : okS x) : CtrK Tryd.prog KK 21 [.ag (eSo x)] (.d (.fl (.string (nmS x)))) := by
  refine ctrK (n := 10) (rs := #[.tmp 2]) (L := [(0, .d (.ag (eSo x)))]) Tryd.func21 rfl rfl rfl rfl rfl (fun w0 U0 hG => ?_)
  refine a_rseq ?_
  refine rg_nam (d := 1) (v := .pt 101 0) (m := 101) (nw := [(101, .bx 66 (eSo x))]) rfl (og rfl (of_eff (op_box 101 rfl rfl rfl rfl) rfl)) rfl ?_
  refine rg_put (d := 2) (v := .d (.fl (.string (⟨#[]⟩)))) rfl (og rfl (op_assign rfl rfl rfl)) ?_
  refine rg_done rfl ?_
  refine a_dseq (by kernel_rfl) ?_
  refine dr_put (d := 3) (v := .pt 101 0) rfl (og rfl (of_eff (s_field_pt rfl Tryd.underlying66 rfl ti9 rfl rfl rfl) rfl)) ?_
  refine dr_put (d := 4) (v := .d (.fl (.string x.dev))) rfl (og rfl (op_load_pt rfl Tryd.underlying9 rfl rfl rfl rfl rfl)) ?_
  refine dr_put (d := 5) (v := .d (.fl (.string ((x.dev ++ (⟨#[46]⟩ : ByteArray)))))) rfl (og rfl (op_bin rfl rfl rfl (fun ox oy ow => b_sadd _ _ _ ox oy ow (by have := h.1; show x.dev.size + 1 ≤ _; omega)) rfl)) ?_
  refine dr_put (d := 6) (v := .pt 101 1) rfl (og rfl (of_eff (s_field_pt rfl Tryd.underlying66 rfl ti3 rfl rfl rfl) rfl)) ?_
  refine dr_put (d := 7) (v := .d (.fl (.int .i64 x.seq))) rfl (og rfl (op_load_pt rfl Tryd.underlying3 rfl rfl rfl rfl rfl)) ?_
  refine dr_put (d := 8) (v := .d (.fl (.string (fm x.seq)))) rfl (og rfl (op_callK kkst hG rfl Tryd.func54 nm54 rfl (.cons rfl (.d _) .nil) (fm54 x.seq (by exact h.2)) rfl)) ?_
  refine dr_put (d := 9) (v := .d (.fl (.string ((((x.dev ++ (⟨#[46]⟩ : ByteArray))) ++ (fm x.seq)))))) rfl (og rfl (op_bin rfl rfl rfl (fun ox oy ow => b_sadd _ _ _ ox oy ow (by have := h.1; have := fm_size h.2; simp only [ByteArray.size_append]; show _ + 1 + _ ≤ _; omega)) rfl)) ?_
  refine dr_put (d := 2) (v := .d (.fl (.string ((((x.dev ++ (⟨#[46]⟩ : ByteArray))) ++ (fm x.seq)))))) rfl (og rfl (op_assign rfl rfl rfl)) ?_
  refine dr_done rfl (by kernel_rfl) (by kernel_rfl) ?_
  refine a_ret ?_
  show ∃ ds, ResL _ _ _ ds ∧ RV.of ds = _
  refine ⟨[.fl (.string ((((x.dev ++ (⟨#[46]⟩ : ByteArray))) ++ (fm x.seq))))], (.cons (.tmp rfl (.d _)) .nil), ?_⟩
  rfl
set_option maxHeartbeats 4000000 in
set_option maxRecDepth 100000 in
theorem name25 (x : So) (h : okS x) : Ctr Tryd.prog 25 [.ag (eSo x)] (.d (.fl (.string (nmS x)))) := by
  refine ctr (n := 10) (rs := #[.tmp 2]) (L := [(0, .d (.ag (eSo x)))]) Tryd.func25 rfl rfl rfl rfl rfl (fun w0 U0 => ?_)
  refine a_rseq ?_
  refine rg_nam (d := 1) (v := .pt 101 0) (m := 101) (nw := [(101, .bx 66 (eSo x))]) rfl (og rfl (of_eff (op_box 101 rfl rfl rfl rfl) rfl)) rfl ?_
  refine rg_put (d := 2) (v := .d (.fl (.string (⟨#[]⟩)))) rfl (og rfl (op_assign rfl rfl rfl)) ?_
  refine rg_done rfl ?_
  refine a_dseq (by kernel_rfl) ?_
  refine dr_put (d := 3) (v := .pt 101 0) rfl (og rfl (of_eff (s_field_pt rfl Tryd.underlying66 rfl ti9 rfl rfl rfl) rfl)) ?_
  refine dr_put (d := 4) (v := .d (.fl (.string x.dev))) rfl (og rfl (op_load_pt rfl Tryd.underlying9 rfl rfl rfl rfl rfl)) ?_
  refine dr_put (d := 5) (v := .d (.fl (.string ((x.dev ++ (⟨#[46]⟩ : ByteArray)))))) rfl (og rfl (op_bin rfl rfl rfl (fun ox oy ow => b_sadd _ _ _ ox oy ow (by have := h.1; show x.dev.size + 1 ≤ _; omega)) rfl)) ?_
  refine dr_put (d := 6) (v := .pt 101 1) rfl (og rfl (of_eff (s_field_pt rfl Tryd.underlying66 rfl ti3 rfl rfl rfl) rfl)) ?_
  refine dr_put (d := 7) (v := .d (.fl (.int .i64 x.seq))) rfl (og rfl (op_load_pt rfl Tryd.underlying3 rfl rfl rfl rfl rfl)) ?_
  refine dr_put (d := 8) (v := .d (.fl (.string (fm x.seq)))) rfl (og rfl (op_call rfl Tryd.func59 nm59 rfl (.cons rfl (.d _) .nil) (fm59 x.seq (by exact h.2)) rfl)) ?_
  refine dr_put (d := 9) (v := .d (.fl (.string ((((x.dev ++ (⟨#[46]⟩ : ByteArray))) ++ (fm x.seq)))))) rfl (og rfl (op_bin rfl rfl rfl (fun ox oy ow => b_sadd _ _ _ ox oy ow (by have := h.1; have := fm_size h.2; simp only [ByteArray.size_append]; show _ + 1 + _ ≤ _; omega)) rfl)) ?_
  refine dr_put (d := 2) (v := .d (.fl (.string ((((x.dev ++ (⟨#[46]⟩ : ByteArray))) ++ (fm x.seq)))))) rfl (og rfl (op_assign rfl rfl rfl)) ?_
  refine dr_done rfl (by kernel_rfl) (by kernel_rfl) ?_
  refine a_ret ?_
  show ∃ ds, ResL _ _ _ ds ∧ RV.of ds = _
  refine ⟨[.fl (.string ((((x.dev ++ (⟨#[46]⟩ : ByteArray))) ++ (fm x.seq))))], (.cons (.tmp rfl (.d _)) .nil), ?_⟩
  rfl
set_option maxHeartbeats 4000000 in
set_option maxRecDepth 100000 in
theorem st36 (r : Rs) (t : Tp) (hr : okR r) (hl : t.stops.length ≤ 1000) : CtrK Tryd.prog KK 36 [.ag (eRs r), .ag (eTp t)] (.d (.sl 3 (List.map eFc ([] ++ cat (gS r) t.stops t.stops.length)))) := by
  have hr1 := hr.1
  refine ctrK (n := 55) (rs := #[.tmp 4]) (L := [(0, .d (.ag (eRs r))), (1, .d (.ag (eTp t)))]) Tryd.func36 rfl rfl rfl rfl rfl (fun w0 U0 hG => ?_)
  refine a_rseq ?_
  refine rg_nam (d := 2) (v := .pt 101 0) (m := 101) (nw := [(101, .bx 56 (eRs r))]) rfl (og rfl (of_eff (op_box 101 rfl rfl rfl rfl) rfl)) rfl ?_
  refine rg_nam (d := 3) (v := .pt 102 0) (m := 102) (nw := [(102, .bx 90 (eTp t))]) rfl (og rfl (of_eff (op_box 102 rfl rfl rfl rfl) rfl)) rfl ?_
  refine rg_put (d := 4) (v := .d (.fl (.slice none 0 0))) rfl (og rfl (op_assign rfl rfl rfl)) ?_
  refine rg_done rfl ?_
  refine a_rseq ?_
  refine rg_nam (d := 5) (v := .pt 103 0) (m := 103) (nw := [(103, .bx 69 [.fl (.slice none 0 0)])]) rfl (og rfl (of_eff (s_alloc 103 rfl ti69 (by kernel_rfl) rfl) rfl)) rfl ?_
  refine rg_done rfl ?_
  refine a_rseq ?_
  refine rg_imp (imp_bt 103 rfl) ?_
  refine rg_imp (imp_btnil 103 0 81 3 rfl rfl) ?_
  refine rg_put (d := 12) (v := .cl 62 [.p 103]) rfl (og rfl (op_mkcl rfl (.p rfl .nil) rfl)) ?_
  refine rg_put (d := 6) (v := .cl 62 [.p 103]) rfl (og rfl (op_assign rfl rfl rfl)) ?_
  refine rg_done rfl ?_
  refine a_seq ?_
  refine a_rseq ?_
  refine rg_put (d := 13) (v := .pt 102 4) rfl (og rfl (of_eff (s_field_pt rfl Tryd.underlying90 rfl ti88 rfl rfl rfl) rfl)) ?_
  refine rg_put (d := 14) (v := .d (.sl 3 (List.map eSp t.stops))) rfl (og rfl (op_load_pt rfl Tryd.underlying88 rfl rfl rfl rfl rfl)) ?_
  refine rg_put (d := 15) (v := .d (.fl (.int .i64 (t.stops.length : Int)))) rfl (og rfl (s_len rfl Tryd.underlying88 rfl rfl)) ?_
  refine rg_put (d := 16) (v := .d (.fl (.int .i64 0))) rfl (og rfl (op_move rfl rfl rfl)) ?_
  refine rg_done rfl ?_
  refine a_block ?_
  refine a_loop (ι := Nat) (fun k => SS [(0, .d (.ag (eRs r))), (1, .d (.ag (eTp t))), (2, .pt 101 0), (3, .pt 102 0), (4, .d (.fl (.slice none 0 0))), (5, .pt 103 0), (6, .cl 62 [.p 103]), (14, .d (.sl 3 (List.map eSp t.stops))), (15, .d (.fl (.int .i64 (t.stops.length : Int)))), (16, .d (.fl (.int .i64 (k : Int))))] [(101, .bx 56 (eRs r)), (102, .bx 90 (eTp t)), (103, .bt 69 [.ow 81 3 (List.map eFc (([] ++ (cat (gS r) t.stops k))))])]) (fun k => k ≤ t.stops.length) (fun k => t.stops.length - k) 0 (by omega) (imp_forget rfl ⟨rfl, rfl, rfl, rfl, rfl, rfl, rfl, rfl, rfl, (by first | rfl | exact ci (by omega) | exact ci (by simp) | exact cd (by simp) | simp), trivial⟩ ⟨rfl, rfl, rfl, trivial⟩) (fun k hok => ?_)
  have hk := hok
  have hc1 := cat_len (g := gS r) (l := t.stops) (c := 1001) (fun x _ => gS_len hr x) k hk
  have hpi := pix_in r.pass (ix t.stops k).pass
  refine a_rseq ?_
  refine rg_put (d := 17) (v := .d (.fl (.bool ((decide ((k : Int) < (t.stops.length : Int))))))) rfl (og rfl (op_bin rfl rfl rfl (b_lss _ _ _ _) rfl)) ?_
  refine rg_done rfl ?_
  refine a_seq ?_
  refine a_cond rfl (fun h1 => ?_) (fun h1 => ?_)
  · skip
    have h2 := t_dec h1
    refine a_skip ?_
    show A _ _ _ _ _ _ _
    refine a_seq ?_
    refine a_block ?_
    refine a_rseq ?_
    refine rg_put (d := 18) (v := .el ((eSp (ix t.stops k)))) rfl (og rfl (s_index rfl Tryd.underlying88 ti100 rfl rfl (by omega) (row_at (by omega)) rfl)) ?_
    refine rg_put (d := 19) (v := .d (.ag (eSp (ix t.stops k)))) rfl (og rfl (of_eff (s_load_els rfl Tryd.underlying100 rfl ti100 rfl rfl rfl) rfl)) ?_
    refine rg_nam (d := 8) (v := .pt 104 0) (m := 104) (nw := [(104, .bx 100 ([.fl (.string (⟨#[]⟩)), .fl (.int .i64 0), .fl (.string (⟨#[]⟩))]))]) rfl (og rfl (of_eff (s_alloc 104 rfl ti100 (by kernel_rfl) rfl) rfl)) rfl ?_
    refine rg_sto (nw := [(104, .bx 100 ((eSp (ix t.stops k))))]) rfl (og rfl (of_eff (s_store rfl rfl ti100 rfl rfl rfl rfl rfl rfl) rfl)) ?_
    refine rg_done rfl ?_
    refine a_seq ?_
    refine a_rseq ?_
    refine rg_put (d := 20) (v := .pt 104 2) rfl (og rfl (of_eff (s_field_pt rfl Tryd.underlying100 rfl ti9 rfl rfl rfl) rfl)) ?_
    refine rg_put (d := 21) (v := .d (.fl (.string ((ix t.stops k).pass)))) rfl (og rfl (op_load_pt rfl Tryd.underlying9 rfl rfl rfl rfl rfl)) ?_
    refine rg_put (d := 22) (v := .d (.fl (.bool ((sEq ((ix t.stops k).pass) (⟨#[]⟩)))))) rfl (og rfl (op_bin rfl rfl rfl (b_seq _ _ _) rfl)) ?_
    refine rg_done rfl ?_
    refine a_cond rfl (fun h3 => ?_) (fun h3 => ?_)
    · skip
      refine a_rseq ?_
      refine rg_put (d := 23) (v := .cl 62 [.p 103]) rfl (og rfl (op_move rfl rfl rfl)) ?_
      refine rg_put (d := 24) (v := .pt 104 0) rfl (og rfl (of_eff (s_field_pt rfl Tryd.underlying100 rfl ti9 rfl rfl rfl) rfl)) ?_
      refine rg_put (d := 25) (v := .d (.fl (.string ((ix t.stops k).point)))) rfl (og rfl (op_load_pt rfl Tryd.underlying9 rfl rfl rfl rfl rfl)) ?_
      refine rg_upd (d := 26) (v := .tu []) (nw := [(103, .bt 69 [.ow 81 3 (List.map eFc ((([] ++ (cat (gS r) t.stops k)) ++ [(Fc.mk (⟨#[105, 110, 102, 101, 114, 114, 101, 100]⟩) ((ix t.stops k).point) 0)])))])]) rfl (og rfl (of_eff (op_callXV [103] (obs := [.bt 69 [.ow 81 3 (List.map eFc (([] ++ (cat (gS r) t.stops k))))]]) (obs' := [.bt 69 [.ow 81 3 (List.map eFc ((([] ++ (cat (gS r) t.stops k)) ++ [(Fc.mk (⟨#[105, 110, 102, 101, 114, 114, 101, 100]⟩) ((ix t.stops k).point) 0)])))]]) (r := .tu []) rfl ⟨_, Tryd.func62, nm62, rfl⟩ rfl (.d rfl (.d _) (.d rfl (.d _) .nil)) (.p 0 rfl .nil) rfl (And.intro rfl trivial) rfl rfl rfl (add62 (([] ++ (cat (gS r) t.stops k))) (⟨#[105, 110, 102, 101, 114, 114, 101, 100]⟩) ((ix t.stops k).point) (by simp only [List.length_append, List.length_cons, List.length_nil]; omega)) rfl) rfl)) ?_
      refine rg_done rfl ?_
      refine a_exit ?_
      show A _ _ _ _ _ _ _
      refine a_region ?_
      refine rg_put (d := 53) (v := .d (.fl (.int .i64 (((k : Int) + 1))))) rfl (og rfl (op_bin rfl rfl rfl (fun x y w => b_add64 _ _ _ x y w (by omega)) rfl)) ?_
      refine rg_put (d := 16) (v := .d (.fl (.int .i64 (((k : Int) + 1))))) rfl (og rfl (op_move rfl rfl rfl)) ?_
      refine rg_done rfl ?_
      have hg := gS_inf (r := r) h3
      show ∃ i, _ ∧ _ ∧ Imp _ _ _ _ _
      refine ⟨k + 1, (by omega), by omega, imp_forget rfl ⟨rfl, rfl, rfl, rfl, rfl, rfl, rfl, rfl, rfl, (by first | rfl | exact ci (by omega) | exact ci (by simp) | exact cd (by simp) | simp), trivial⟩ ⟨rfl, rfl, (congrArg (fun z => Ob.bt 69 [OC.ow 81 3 (List.map eFc z)]) (cat_mid hg (by first | rfl | simp only [List.append_nil] | simp only [List.append_assoc, List.cons_append, List.nil_append]))), trivial⟩⟩
    · skip
      refine a_skip ?_
      show A _ _ _ _ _ _ _
      refine a_rseq ?_
      refine rg_put (d := 27) (v := .cl 62 [.p 103]) rfl (og rfl (op_move rfl rfl rfl)) ?_
      refine rg_put (d := 28) (v := .pt 104 2) rfl (og rfl (of_eff (s_field_pt rfl Tryd.underlying100 rfl ti9 rfl rfl rfl) rfl)) ?_
      refine rg_put (d := 29) (v := .d (.fl (.string ((ix t.stops k).pass)))) rfl (og rfl (op_load_pt rfl Tryd.underlying9 rfl rfl rfl rfl rfl)) ?_
      refine rg_upd (d := 30) (v := .tu []) (nw := [(103, .bt 69 [.ow 81 3 (List.map eFc ((([] ++ (cat (gS r) t.stops k)) ++ [(Fc.mk (⟨#[112, 97, 115, 115, 97, 103, 101]⟩) ((ix t.stops k).pass) 0)])))])]) rfl (og rfl (of_eff (op_callXV [103] (obs := [.bt 69 [.ow 81 3 (List.map eFc (([] ++ (cat (gS r) t.stops k))))]]) (obs' := [.bt 69 [.ow 81 3 (List.map eFc ((([] ++ (cat (gS r) t.stops k)) ++ [(Fc.mk (⟨#[112, 97, 115, 115, 97, 103, 101]⟩) ((ix t.stops k).pass) 0)])))]]) (r := .tu []) rfl ⟨_, Tryd.func62, nm62, rfl⟩ rfl (.d rfl (.d _) (.d rfl (.d _) .nil)) (.p 0 rfl .nil) rfl (And.intro rfl trivial) rfl rfl rfl (add62 (([] ++ (cat (gS r) t.stops k))) (⟨#[112, 97, 115, 115, 97, 103, 101]⟩) ((ix t.stops k).pass) (by simp only [List.length_append, List.length_cons, List.length_nil]; omega)) rfl) rfl)) ?_
      refine rg_done rfl ?_
      refine a_rseq ?_
      refine rg_put (d := 31) (v := .pt 101 0) rfl (og rfl (of_eff (s_field_pt rfl Tryd.underlying56 rfl ti50 rfl rfl rfl) rfl)) ?_
      refine rg_put (d := 32) (v := .d (.sl 8 (List.map ePg r.pass))) rfl (og rfl (op_load_pt rfl Tryd.underlying50 rfl rfl rfl rfl rfl)) ?_
      refine rg_imp (imp_freeze 8 104 rfl rfl) ?_
      refine rg_put (d := 33) (v := .d (.fn 63 [.el ((eSp (ix t.stops k)))])) rfl (og rfl (op_mkfn rfl (.cons rfl .nil) rfl)) ?_
      refine rg_put (d := 34) (v := .d (.fl (.int .i64 ((pix r.pass (ix t.stops k).pass))))) rfl (og rfl (op_call rfl Tryd.func61 nm61 rfl (.cons rfl (.d _) (.cons rfl (.d _) .nil)) (ix61b r.pass (ix t.stops k) (by omega)) rfl)) ?_
      refine rg_put (d := 9) (v := .d (.fl (.int .i64 ((pix r.pass (ix t.stops k).pass))))) rfl (og rfl (op_assign rfl rfl rfl)) ?_
      refine rg_done rfl ?_
      refine a_seq ?_
      refine a_rseq ?_
      refine rg_put (d := 35) (v := .d (.fl (.int .i64 ((pix r.pass (ix t.stops k).pass))))) rfl (og rfl (op_move rfl rfl rfl)) ?_
      refine rg_put (d := 36) (v := .d (.fl (.bool ((decide ((pix r.pass (ix t.stops k).pass) < 0)))))) rfl (og rfl (op_bin rfl rfl rfl (b_lss _ _ _ _) rfl)) ?_
      refine rg_done rfl ?_
      refine a_cond rfl (fun h4 => ?_) (fun h4 => ?_)
      · skip
        have h5 := t_dec h4
        refine a_exit ?_
        show A _ _ _ _ _ _ _
        refine a_region ?_
        refine rg_put (d := 53) (v := .d (.fl (.int .i64 (((k : Int) + 1))))) rfl (og rfl (op_bin rfl rfl rfl (fun x y w => b_add64 _ _ _ x y w (by omega)) rfl)) ?_
        refine rg_put (d := 16) (v := .d (.fl (.int .i64 (((k : Int) + 1))))) rfl (og rfl (op_move rfl rfl rfl)) ?_
        refine rg_done rfl ?_
        have hg := gS_no h3 (lt_ge h4)
        show ∃ i, _ ∧ _ ∧ Imp _ _ _ _ _
        refine ⟨k + 1, (by omega), by omega, imp_forget rfl ⟨rfl, rfl, rfl, rfl, rfl, rfl, rfl, rfl, rfl, (by first | rfl | exact ci (by omega) | exact ci (by simp) | exact cd (by simp) | simp), trivial⟩ ⟨rfl, rfl, (congrArg (fun z => Ob.bt 69 [OC.ow 81 3 (List.map eFc z)]) (cat_mid hg (by first | rfl | simp only [List.append_nil] | simp only [List.append_assoc, List.cons_append, List.nil_append]))), trivial⟩⟩
      · skip
        have h6 := f_dec h4
        refine a_skip ?_
        show A _ _ _ _ _ _ _
        refine a_rseq ?_
        refine rg_put (d := 37) (v := .pt 101 0) rfl (og rfl (of_eff (s_field_pt rfl Tryd.underlying56 rfl ti50 rfl rfl rfl) rfl)) ?_
        refine rg_put (d := 38) (v := .d (.sl 8 (List.map ePg r.pass))) rfl (og rfl (op_load_pt rfl Tryd.underlying50 rfl rfl rfl rfl rfl)) ?_
        refine rg_put (d := 39) (v := .d (.fl (.int .i64 ((pix r.pass (ix t.stops k).pass))))) rfl (og rfl (op_move rfl rfl rfl)) ?_
        refine rg_put (d := 40) (v := .el ((ePg ((ix r.pass ((pix r.pass (ix t.stops k).pass)).toNat))))) rfl (og rfl (s_index rfl Tryd.underlying50 ti87 rfl rfl (by omega) (row_atI (by omega) (by omega)) rfl)) ?_
        refine rg_put (d := 41) (v := .el ((List.drop 7 ((ePg ((ix r.pass ((pix r.pass (ix t.stops k).pass)).toNat))))))) rfl (og rfl (of_eff (s_field_el rfl Tryd.underlying87 rfl ti85 rfl rfl rfl) rfl)) ?_
        refine rg_put (d := 42) (v := .d (.sl 2 (List.map eSo (((ix r.pass ((pix r.pass (ix t.stops k).pass)).toNat)).srcs)))) rfl (og rfl (op_load_el rfl Tryd.underlying85 rfl rfl rfl rfl)) ?_
        refine rg_put (d := 43) (v := .d (.fl (.int .i64 (((((ix r.pass ((pix r.pass (ix t.stops k).pass)).toNat)).srcs).length : Int))))) rfl (og rfl (s_len rfl Tryd.underlying85 rfl rfl)) ?_
        refine rg_put (d := 44) (v := .d (.fl (.int .i64 0))) rfl (og rfl (op_move rfl rfl rfl)) ?_
        refine rg_done rfl ?_
        refine a_block ?_
        refine a_loop (ι := Nat) (fun j => SS [(0, .d (.ag (eRs r))), (1, .d (.ag (eTp t))), (2, .pt 101 0), (3, .pt 102 0), (4, .d (.fl (.slice none 0 0))), (5, .pt 103 0), (6, .cl 62 [.p 103]), (8, .el ((eSp (ix t.stops k)))), (9, .d (.fl (.int .i64 ((pix r.pass (ix t.stops k).pass))))), (14, .d (.sl 3 (List.map eSp t.stops))), (15, .d (.fl (.int .i64 (t.stops.length : Int)))), (16, .d (.fl (.int .i64 (k : Int)))), (17, .d (.fl (.bool ((decide ((k : Int) < (t.stops.length : Int))))))), (22, .d (.fl (.bool ((sEq ((ix t.stops k).pass) (⟨#[]⟩)))))), (36, .d (.fl (.bool ((decide ((pix r.pass (ix t.stops k).pass) < 0)))))), (42, .d (.sl 2 (List.map eSo (((ix r.pass ((pix r.pass (ix t.stops k).pass)).toNat)).srcs)))), (43, .d (.fl (.int .i64 (((((ix r.pass ((pix r.pass (ix t.stops k).pass)).toNat)).srcs).length : Int))))), (44, .d (.fl (.int .i64 (j : Int))))] [(101, .bx 56 (eRs r)), (102, .bx 90 (eTp t)), (103, .bt 69 [.ow 81 3 (List.map eFc (((([] ++ (cat (gS r) t.stops k)) ++ [(Fc.mk (⟨#[112, 97, 115, 115, 97, 103, 101]⟩) ((ix t.stops k).pass) 0)]) ++ (cat gD (ix r.pass (pix r.pass (ix t.stops k).pass).toNat).srcs j))))])]) (fun j => j ≤ (ix r.pass (pix r.pass (ix t.stops k).pass).toNat).srcs.length) (fun j => (ix r.pass (pix r.pass (ix t.stops k).pass).toNat).srcs.length - j) 0 (by omega) (imp_forget rfl ⟨rfl, rfl, rfl, rfl, rfl, rfl, rfl, rfl, rfl, rfl, rfl, rfl, rfl, rfl, rfl, rfl, rfl, (by first | rfl | exact ci (by omega) | exact ci (by simp) | exact cd (by simp) | simp), trivial⟩ ⟨rfl, rfl, (congrArg (fun z => Ob.bt 69 [OC.ow 81 3 (List.map eFc z)]) (List.append_nil _).symm), trivial⟩) (fun j hok => ?_)
        have hj := hok
        have hps := hr.2 (pix r.pass (ix t.stops k).pass).toNat (by omega)
        have hc2 := cat_len (g := gD) (l := (ix r.pass (pix r.pass (ix t.stops k).pass).toNat).srcs) (c := 1) (fun x _ => gD_len x) j hj
        refine a_rseq ?_
        refine rg_put (d := 45) (v := .d (.fl (.bool ((decide ((j : Int) < ((((ix r.pass ((pix r.pass (ix t.stops k).pass)).toNat)).srcs).length : Int))))))) rfl (og rfl (op_bin rfl rfl rfl (b_lss _ _ _ _) rfl)) ?_
        refine rg_done rfl ?_
        refine a_seq ?_
        refine a_cond rfl (fun h7 => ?_) (fun h7 => ?_)
        · skip
          have h8 := t_dec h7
          refine a_skip ?_
          show A _ _ _ _ _ _ _
          refine a_seq ?_
          refine a_block ?_
          refine a_rseq ?_
          refine rg_put (d := 46) (v := .el ((eSo ((ix (((ix r.pass ((pix r.pass (ix t.stops k).pass)).toNat)).srcs) j))))) rfl (og rfl (s_index rfl Tryd.underlying85 ti66 rfl rfl (by omega) (row_at (by omega)) rfl)) ?_
          refine rg_put (d := 47) (v := .d (.ag (eSo (((ix (((ix r.pass ((pix r.pass (ix t.stops k).pass)).toNat)).srcs) j)))))) rfl (og rfl (of_eff (s_load_els rfl Tryd.underlying66 rfl ti66 rfl rfl rfl) rfl)) ?_
          refine rg_nam (d := 11) (v := .pt 105 0) (m := 105) (nw := [(105, .bx 66 ([.fl (.string (⟨#[]⟩)), .fl (.int .i64 0)]))]) rfl (og rfl (of_eff (s_alloc 105 rfl ti66 (by kernel_rfl) rfl) rfl)) rfl ?_
          refine rg_sto (nw := [(105, .bx 66 ((eSo (((ix (((ix r.pass ((pix r.pass (ix t.stops k).pass)).toNat)).srcs) j))))))]) rfl (og rfl (of_eff (s_store rfl rfl ti66 rfl rfl rfl rfl rfl rfl) rfl)) ?_
          refine rg_done rfl ?_
          refine a_region ?_
          refine rg_put (d := 48) (v := .cl 62 [.p 103]) rfl (og rfl (op_move rfl rfl rfl)) ?_
          refine rg_put (d := 49) (v := .d (.ag (eSo ((((ix (((ix r.pass ((pix r.pass (ix t.stops k).pass)).toNat)).srcs) j))))))) rfl (og rfl (of_eff (s_load_pts rfl Tryd.underlying66 rfl ti66 rfl rfl rfl rfl) rfl)) ?_
          refine rg_put (d := 50) (v := .d (.fl (.string ((nmS ((((ix (((ix r.pass ((pix r.pass (ix t.stops k).pass)).toNat)).srcs) j))))))))) rfl (og rfl (op_callK kkst hG rfl Tryd.func21 nm21 rfl (.cons rfl (.d _) .nil) (name21 ((((ix (((ix r.pass ((pix r.pass (ix t.stops k).pass)).toNat)).srcs) j)))) (hps.2 j (by omega))) rfl)) ?_
          refine rg_upd (d := 51) (v := .tu []) (nw := [(103, .bt 69 [.ow 81 3 (List.map eFc ((((([] ++ (cat (gS r) t.stops k)) ++ [(Fc.mk (⟨#[112, 97, 115, 115, 97, 103, 101]⟩) ((ix t.stops k).pass) 0)]) ++ (cat gD (ix r.pass (pix r.pass (ix t.stops k).pass).toNat).srcs j)) ++ [(Fc.mk (⟨#[100, 101, 116, 101, 99, 116, 105, 111, 110]⟩) ((nmS ((((ix (((ix r.pass ((pix r.pass (ix t.stops k).pass)).toNat)).srcs) j)))))) 0)])))])]) rfl (og rfl (of_eff (op_callXV [103] (obs := [.bt 69 [.ow 81 3 (List.map eFc (((([] ++ (cat (gS r) t.stops k)) ++ [(Fc.mk (⟨#[112, 97, 115, 115, 97, 103, 101]⟩) ((ix t.stops k).pass) 0)]) ++ (cat gD (ix r.pass (pix r.pass (ix t.stops k).pass).toNat).srcs j))))]]) (obs' := [.bt 69 [.ow 81 3 (List.map eFc ((((([] ++ (cat (gS r) t.stops k)) ++ [(Fc.mk (⟨#[112, 97, 115, 115, 97, 103, 101]⟩) ((ix t.stops k).pass) 0)]) ++ (cat gD (ix r.pass (pix r.pass (ix t.stops k).pass).toNat).srcs j)) ++ [(Fc.mk (⟨#[100, 101, 116, 101, 99, 116, 105, 111, 110]⟩) ((nmS ((((ix (((ix r.pass ((pix r.pass (ix t.stops k).pass)).toNat)).srcs) j)))))) 0)])))]]) (r := .tu []) rfl ⟨_, Tryd.func62, nm62, rfl⟩ rfl (.d rfl (.d _) (.d rfl (.d _) .nil)) (.p 0 rfl .nil) rfl (And.intro rfl trivial) rfl rfl rfl (add62 (((([] ++ (cat (gS r) t.stops k)) ++ [(Fc.mk (⟨#[112, 97, 115, 115, 97, 103, 101]⟩) ((ix t.stops k).pass) 0)]) ++ (cat gD (ix r.pass (pix r.pass (ix t.stops k).pass).toNat).srcs j))) (⟨#[100, 101, 116, 101, 99, 116, 105, 111, 110]⟩) ((nmS ((((ix (((ix r.pass ((pix r.pass (ix t.stops k).pass)).toNat)).srcs) j)))))) (by simp only [List.length_append, List.length_cons, List.length_nil]; omega)) rfl) rfl)) ?_
          refine rg_done rfl ?_
          show A _ _ _ _ _ _ _
          refine a_region ?_
          refine rg_put (d := 52) (v := .d (.fl (.int .i64 (((j : Int) + 1))))) rfl (og rfl (op_bin rfl rfl rfl (fun x y w => b_add64 _ _ _ x y w (by omega)) rfl)) ?_
          refine rg_put (d := 44) (v := .d (.fl (.int .i64 (((j : Int) + 1))))) rfl (og rfl (op_move rfl rfl rfl)) ?_
          refine rg_done rfl ?_
          have hg2 : cat gD (ix r.pass (pix r.pass (ix t.stops k).pass).toNat).srcs (j + 1) = cat gD (ix r.pass (pix r.pass (ix t.stops k).pass).toNat).srcs j ++ [Fc.mk ⟨#[100, 101, 116, 101, 99, 116, 105, 111, 110]⟩ (nmS (ix (ix r.pass (pix r.pass (ix t.stops k).pass).toNat).srcs j)) 0] := rfl
          show ∃ i, _ ∧ _ ∧ Imp _ _ _ _ _
          refine ⟨j + 1, (by omega), by omega, imp_forget rfl ⟨rfl, rfl, rfl, rfl, rfl, rfl, rfl, rfl, rfl, rfl, rfl, rfl, rfl, rfl, rfl, rfl, rfl, (by first | rfl | exact ci (by omega) | exact ci (by simp) | exact cd (by simp) | simp), trivial⟩ ⟨rfl, rfl, (congrArg (fun z => Ob.bt 69 [OC.ow 81 3 (List.map eFc z)]) (by rw [hg2, List.append_assoc] : _ = (([] ++ (cat (gS r) t.stops k)) ++ [(Fc.mk (⟨#[112, 97, 115, 115, 97, 103, 101]⟩) ((ix t.stops k).pass) 0)]) ++ cat gD (ix r.pass (pix r.pass (ix t.stops k).pass).toNat).srcs (j + 1))), trivial⟩⟩
        · skip
          have h9 := f_dec h7
          refine a_exit ?_
          show A _ _ _ _ _ _ _
          refine a_region ?_
          refine rg_put (d := 53) (v := .d (.fl (.int .i64 (((k : Int) + 1))))) rfl (og rfl (op_bin rfl rfl rfl (fun x y w => b_add64 _ _ _ x y w (by omega)) rfl)) ?_
          refine rg_put (d := 16) (v := .d (.fl (.int .i64 (((k : Int) + 1))))) rfl (og rfl (op_move rfl rfl rfl)) ?_
          refine rg_done rfl ?_
          have hjl : j = (ix r.pass (pix r.pass (ix t.stops k).pass).toNat).srcs.length := by omega
          rw [show (cat gD (ix r.pass (pix r.pass (ix t.stops k).pass).toNat).srcs j) = (sF r (ix t.stops k).pass) from by rw [hjl]; rfl]
          have hg := gS_yes h3 (lt_ge h4)
          show ∃ i, _ ∧ _ ∧ Imp _ _ _ _ _
          refine ⟨k + 1, (by omega), by omega, imp_forget rfl ⟨rfl, rfl, rfl, rfl, rfl, rfl, rfl, rfl, rfl, (by first | rfl | exact ci (by omega) | exact ci (by simp) | exact cd (by simp) | simp), trivial⟩ ⟨rfl, rfl, (congrArg (fun z => Ob.bt 69 [OC.ow 81 3 (List.map eFc z)]) (cat_mid hg (by first | rfl | simp only [List.append_nil] | simp only [List.append_assoc, List.cons_append, List.nil_append]))), trivial⟩⟩
  · skip
    have h10 := f_dec h1
    refine a_exit ?_
    show A _ _ _ _ _ _ _
    refine a_rseq ?_
    refine rg_nam (d := 54) (v := .ow 106) (m := 106) (nw := [(106, .tr 81 3 (tD eFc (([] ++ (cat (gS r) t.stops k))))), (103, .bt 69 [.un])]) rfl (og rfl (of_eff (op_takeBt 106 rfl Tryd.underlying69 rfl rfl rfl rfl rfl rfl) rfl)) rfl ?_
    refine rg_put (d := 4) (v := .ow 106) rfl (og rfl (op_assign rfl rfl rfl)) ?_
    refine rg_done rfl ?_
    refine a_imp (imp_leakT 4 106 rfl rfl) ?_
    refine a_ret ?_
    show ∃ ds, ResL _ _ _ ds ∧ RV.of ds = _
    refine ⟨[.sl 3 (List.map eFc (([] ++ (cat (gS r) t.stops k))))], (.cons (.tmp rfl (.d _)) .nil), ?_⟩
    have hkl : k = t.stops.length := by omega
    subst hkl
    rfl
set_option maxHeartbeats 4000000 in
set_option maxRecDepth 100000 in
theorem st42 (r : Rs) (t : Tp) (hr : okR r) (hl : t.stops.length ≤ 1000) : Ctr Tryd.prog 42 [.ag (eRs r), .ag (eTp t)] (.d (.sl 3 (List.map eFc ([Fc.mk ⟨#[116, 114, 105, 112]⟩ t.id 0] ++ cat (gS r) t.stops t.stops.length)))) := by
  have hr1 := hr.1
  refine ctr (n := 86) (rs := #[.tmp 4]) (L := [(0, .d (.ag (eRs r))), (1, .d (.ag (eTp t)))]) Tryd.func42 rfl rfl rfl rfl rfl (fun w0 U0 => ?_)
  refine a_rseq ?_
  refine rg_nam (d := 2) (v := .pt 101 0) (m := 101) (nw := [(101, .bx 56 (eRs r))]) rfl (og rfl (of_eff (op_box 101 rfl rfl rfl rfl) rfl)) rfl ?_
  refine rg_nam (d := 3) (v := .pt 102 0) (m := 102) (nw := [(102, .bx 90 (eTp t))]) rfl (og rfl (of_eff (op_box 102 rfl rfl rfl rfl) rfl)) rfl ?_
  refine rg_put (d := 4) (v := .d (.fl (.slice none 0 0))) rfl (og rfl (op_assign rfl rfl rfl)) ?_
  refine rg_done rfl ?_
  refine a_rseq ?_
  refine rg_put (d := 9) (v := .pt 102 0) rfl (og rfl (of_eff (s_field_pt rfl Tryd.underlying90 rfl ti9 rfl rfl rfl) rfl)) ?_
  refine rg_put (d := 10) (v := .d (.fl (.string t.id))) rfl (og rfl (op_load_pt rfl Tryd.underlying9 rfl rfl rfl rfl rfl)) ?_
  refine rg_put (d := 11) (v := .d (.ag (eFc ((Fc.mk (⟨#[116, 114, 105, 112]⟩) t.id 0))))) rfl (og rfl (of_eff (op_build rfl Tryd.underlying81 ti81 rfl (by kernel_rfl) (by kernel_rfl) (pl := #[(0, 1), (1, 1), (2, 1)]) (by kernel_rfl) (.cons rfl rfl (.d _) rfl rfl rfl (.cons rfl rfl (.d _) rfl rfl rfl .nil)) rfl) rfl)) ?_
  refine rg_nam (d := 12) (v := .ow 103) (m := 103) (nw := [(103, .tr 81 3 (tD eFc ([(Fc.mk (⟨#[116, 114, 105, 112]⟩) t.id 0)])))]) rfl (og rfl (of_eff (of_eff (op_sliceB 103 rfl Tryd.underlying69 ti81 rfl rfl rfl (by kernel_rfl) (xs := [.ag (eFc ((Fc.mk (⟨#[116, 114, 105, 112]⟩) t.id 0)))]) rfl rfl (.cons rfl rfl (.d _) rfl rfl rfl .nil) rfl) rfl) rfl)) rfl ?_
  refine rg_put (d := 5) (v := .ow 103) rfl (og rfl (op_assign rfl rfl rfl)) ?_
  refine rg_done rfl ?_
  refine a_seq ?_
  refine a_rseq ?_
  refine rg_put (d := 6) (v := .d (.fl (.int .i64 0))) rfl (og rfl (op_assign rfl rfl rfl)) ?_
  refine rg_done rfl ?_
  refine a_block ?_
  refine a_loop (ι := Nat) (fun k => SS [(0, .d (.ag (eRs r))), (1, .d (.ag (eTp t))), (2, .pt 101 0), (3, .pt 102 0), (4, .d (.fl (.slice none 0 0))), (6, .d (.fl (.int .i64 (k : Int)))), (5, .ow 103)] [(101, .bx 56 (eRs r)), (102, .bx 90 (eTp t)), (103, .tr 81 3 (tD eFc (([(Fc.mk ⟨#[116, 114, 105, 112]⟩ t.id 0)] ++ (cat (gS r) t.stops k)))))]) (fun k => k ≤ t.stops.length) (fun k => t.stops.length - k) 0 (by omega) (imp_forget rfl ⟨rfl, rfl, rfl, rfl, rfl, (by first | rfl | exact ci (by omega) | exact ci (by simp) | exact cd (by simp) | simp), (by first | rfl | exact ci (by omega) | exact ci (by simp) | exact cd (by simp) | simp), trivial⟩ ⟨rfl, rfl, rfl, trivial⟩) (fun k hok => ?_)
  have hk := hok
  have hc1 := cat_len (g := gS r) (l := t.stops) (c := 1001) (fun x _ => gS_len hr x) k hk
  have hpi := pix_in r.pass (ix t.stops k).pass
  refine a_seq ?_
  refine a_rseq ?_
  refine rg_put (d := 13) (v := .d (.fl (.int .i64 (k : Int)))) rfl (og rfl (op_move rfl rfl rfl)) ?_
  refine rg_put (d := 14) (v := .pt 102 4) rfl (og rfl (of_eff (s_field_pt rfl Tryd.underlying90 rfl ti88 rfl rfl rfl) rfl)) ?_
  refine rg_put (d := 15) (v := .d (.sl 3 (List.map eSp t.stops))) rfl (og rfl (op_load_pt rfl Tryd.underlying88 rfl rfl rfl rfl rfl)) ?_
  refine rg_put (d := 16) (v := .d (.fl (.int .i64 (t.stops.length : Int)))) rfl (og rfl (s_len rfl Tryd.underlying88 rfl rfl)) ?_
  refine rg_put (d := 17) (v := .d (.fl (.bool ((decide ((k : Int) < (t.stops.length : Int))))))) rfl (og rfl (op_bin rfl rfl rfl (b_lss _ _ _ _) rfl)) ?_
  refine rg_done rfl ?_
  refine a_cond rfl (fun h1 => ?_) (fun h1 => ?_)
  · skip
    have h2 := t_dec h1
    refine a_skip ?_
    show A _ _ _ _ _ _ _
    refine a_seq ?_
    refine a_block ?_
    refine a_seq ?_
    refine a_rseq ?_
    refine rg_put (d := 20) (v := .pt 102 4) rfl (og rfl (of_eff (s_field_pt rfl Tryd.underlying90 rfl ti88 rfl rfl rfl) rfl)) ?_
    refine rg_put (d := 21) (v := .d (.sl 3 (List.map eSp t.stops))) rfl (og rfl (op_load_pt rfl Tryd.underlying88 rfl rfl rfl rfl rfl)) ?_
    refine rg_put (d := 22) (v := .d (.fl (.int .i64 (k : Int)))) rfl (og rfl (op_move rfl rfl rfl)) ?_
    refine rg_put (d := 23) (v := .el ((eSp (ix t.stops k)))) rfl (og rfl (s_index rfl Tryd.underlying88 ti100 rfl rfl (by omega) (row_at (by omega)) rfl)) ?_
    refine rg_put (d := 24) (v := .el ((List.drop 2 ((eSp (ix t.stops k)))))) rfl (og rfl (of_eff (s_field_el rfl Tryd.underlying100 rfl ti9 rfl rfl rfl) rfl)) ?_
    refine rg_put (d := 25) (v := .d (.fl (.string ((ix t.stops k).pass)))) rfl (og rfl (op_load_el rfl Tryd.underlying9 rfl rfl rfl rfl)) ?_
    refine rg_put (d := 26) (v := .d (.fl (.bool ((sEq ((ix t.stops k).pass) (⟨#[]⟩)))))) rfl (og rfl (op_bin rfl rfl rfl (b_seq _ _ _) rfl)) ?_
    refine rg_done rfl ?_
    refine a_cond rfl (fun h3 => ?_) (fun h3 => ?_)
    · skip
      refine a_rseq ?_
      refine rg_put (d := 27) (v := .ow 103) rfl (og rfl (op_move rfl rfl rfl)) ?_
      refine rg_put (d := 28) (v := .pt 102 4) rfl (og rfl (of_eff (s_field_pt rfl Tryd.underlying90 rfl ti88 rfl rfl rfl) rfl)) ?_
      refine rg_put (d := 29) (v := .d (.sl 3 (List.map eSp t.stops))) rfl (og rfl (op_load_pt rfl Tryd.underlying88 rfl rfl rfl rfl rfl)) ?_
      refine rg_put (d := 30) (v := .d (.fl (.int .i64 (k : Int)))) rfl (og rfl (op_move rfl rfl rfl)) ?_
      refine rg_put (d := 31) (v := .el ((eSp (ix t.stops k)))) rfl (og rfl (s_index rfl Tryd.underlying88 ti100 rfl rfl (by omega) (row_at (by omega)) rfl)) ?_
      refine rg_put (d := 32) (v := .el ((List.drop 0 ((eSp (ix t.stops k)))))) rfl (og rfl (of_eff (s_field_el rfl Tryd.underlying100 rfl ti9 rfl rfl rfl) rfl)) ?_
      refine rg_put (d := 33) (v := .d (.fl (.string ((ix t.stops k).point)))) rfl (og rfl (op_load_el rfl Tryd.underlying9 rfl rfl rfl rfl)) ?_
      refine rg_put (d := 34) (v := .d (.ag (eFc ((Fc.mk (⟨#[105, 110, 102, 101, 114, 114, 101, 100]⟩) ((ix t.stops k).point) 0))))) rfl (og rfl (of_eff (op_build rfl Tryd.underlying81 ti81 rfl (by kernel_rfl) (by kernel_rfl) (pl := #[(0, 1), (1, 1), (2, 1)]) (by kernel_rfl) (.cons rfl rfl (.d _) rfl rfl rfl (.cons rfl rfl (.d _) rfl rfl rfl .nil)) rfl) rfl)) ?_
      refine rg_put (d := 35) (v := .d (.sl 3 (List.map eFc ([(Fc.mk (⟨#[105, 110, 102, 101, 114, 114, 101, 100]⟩) ((ix t.stops k).point) 0)])))) rfl (og rfl (of_eff (op_slices rfl Tryd.underlying69 ti81 rfl rfl rfl (by kernel_rfl) (xs := [.ag (eFc ((Fc.mk (⟨#[105, 110, 102, 101, 114, 114, 101, 100]⟩) ((ix t.stops k).point) 0)))]) rfl rfl (.cons rfl rfl (.d _) rfl rfl rfl .nil) rfl) rfl)) ?_
      refine rg_nam (d := 36) (v := .ow 104) (m := 104) (nw := [(104, .tr 81 3 (tD eFc ((([(Fc.mk ⟨#[116, 114, 105, 112]⟩ t.id 0)] ++ (cat (gS r) t.stops k)) ++ [(Fc.mk (⟨#[105, 110, 102, 101, 114, 114, 101, 100]⟩) ((ix t.stops k).point) 0)])))), (103, .no)]) rfl (og rfl (of_eff (s_append_td 104 rfl Tryd.underlying69 ti81 rfl rfl rfl rfl rfl (.d _) (by simp only [List.length_append, List.length_cons, List.length_nil]; omega) rfl) rfl)) rfl ?_
      refine rg_put (d := 5) (v := .ow 104) rfl (og rfl (op_assign rfl rfl rfl)) ?_
      refine rg_done rfl ?_
      refine a_exit ?_
      show A _ _ _ _ _ _ _
      refine a_region ?_
      refine rg_put (d := 18) (v := .d (.fl (.int .i64 (k : Int)))) rfl (og rfl (op_move rfl rfl rfl)) ?_
      refine rg_put (d := 19) (v := .d (.fl (.int .i64 (((k : Int) + 1))))) rfl (og rfl (op_bin rfl rfl rfl (fun x y w => b_add64 _ _ _ x y w (by omega)) rfl)) ?_
      refine rg_put (d := 6) (v := .d (.fl (.int .i64 (((k : Int) + 1))))) rfl (og rfl (op_assign rfl rfl rfl)) ?_
      refine rg_done rfl ?_
      have hg := gS_inf (r := r) h3
      show ∃ i, _ ∧ _ ∧ Imp _ _ _ _ _
      refine ⟨k + 1, (by omega), by omega, imp_ren (fun m => bif Nat.beq m 103 then 104 else m) rfl ⟨rfl, rfl, rfl, rfl, rfl, (by first | rfl | exact ci (by omega) | exact ci (by simp) | exact cd (by simp) | simp), rfl, trivial⟩ ⟨rfl, rfl, (congrArg (fun z => Ob.tr 81 3 (tD eFc z)) (cat_mid hg (by first | rfl | simp only [List.append_nil] | simp only [List.append_assoc, List.cons_append, List.nil_append]))), trivial⟩⟩
    · skip
      refine a_skip ?_
      show A _ _ _ _ _ _ _
      refine a_rseq ?_
      refine rg_put (d := 37) (v := .ow 103) rfl (og rfl (op_move rfl rfl rfl)) ?_
      refine rg_put (d := 38) (v := .pt 102 4) rfl (og rfl (of_eff (s_field_pt rfl Tryd.underlying90 rfl ti88 rfl rfl rfl) rfl)) ?_
      refine rg_put (d := 39) (v := .d (.sl 3 (List.map eSp t.stops))) rfl (og rfl (op_load_pt rfl Tryd.underlying88 rfl rfl rfl rfl rfl)) ?_
      refine rg_put (d := 40) (v := .d (.fl (.int .i64 (k : Int)))) rfl (og rfl (op_move rfl rfl rfl)) ?_
      refine rg_put (d := 41) (v := .el ((eSp (ix t.stops k)))) rfl (og rfl (s_index rfl Tryd.underlying88 ti100 rfl rfl (by omega) (row_at (by omega)) rfl)) ?_
      refine rg_put (d := 42) (v := .el ((List.drop 2 ((eSp (ix t.stops k)))))) rfl (og rfl (of_eff (s_field_el rfl Tryd.underlying100 rfl ti9 rfl rfl rfl) rfl)) ?_
      refine rg_put (d := 43) (v := .d (.fl (.string ((ix t.stops k).pass)))) rfl (og rfl (op_load_el rfl Tryd.underlying9 rfl rfl rfl rfl)) ?_
      refine rg_put (d := 44) (v := .d (.ag (eFc ((Fc.mk (⟨#[112, 97, 115, 115, 97, 103, 101]⟩) ((ix t.stops k).pass) 0))))) rfl (og rfl (of_eff (op_build rfl Tryd.underlying81 ti81 rfl (by kernel_rfl) (by kernel_rfl) (pl := #[(0, 1), (1, 1), (2, 1)]) (by kernel_rfl) (.cons rfl rfl (.d _) rfl rfl rfl (.cons rfl rfl (.d _) rfl rfl rfl .nil)) rfl) rfl)) ?_
      refine rg_put (d := 45) (v := .d (.sl 3 (List.map eFc ([(Fc.mk (⟨#[112, 97, 115, 115, 97, 103, 101]⟩) ((ix t.stops k).pass) 0)])))) rfl (og rfl (of_eff (op_slices rfl Tryd.underlying69 ti81 rfl rfl rfl (by kernel_rfl) (xs := [.ag (eFc ((Fc.mk (⟨#[112, 97, 115, 115, 97, 103, 101]⟩) ((ix t.stops k).pass) 0)))]) rfl rfl (.cons rfl rfl (.d _) rfl rfl rfl .nil) rfl) rfl)) ?_
      refine rg_nam (d := 46) (v := .ow 105) (m := 105) (nw := [(105, .tr 81 3 (tD eFc ((([(Fc.mk ⟨#[116, 114, 105, 112]⟩ t.id 0)] ++ (cat (gS r) t.stops k)) ++ [(Fc.mk (⟨#[112, 97, 115, 115, 97, 103, 101]⟩) ((ix t.stops k).pass) 0)])))), (103, .no)]) rfl (og rfl (of_eff (s_append_td 105 rfl Tryd.underlying69 ti81 rfl rfl rfl rfl rfl (.d _) (by simp only [List.length_append, List.length_cons, List.length_nil]; omega) rfl) rfl)) rfl ?_
      refine rg_put (d := 5) (v := .ow 105) rfl (og rfl (op_assign rfl rfl rfl)) ?_
      refine rg_done rfl ?_
      refine a_dseq (by kernel_rfl) ?_
      refine dr_put (d := 47) (v := .pt 101 0) rfl (og rfl (of_eff (s_field_pt rfl Tryd.underlying56 rfl ti50 rfl rfl rfl) rfl)) ?_
      refine dr_put (d := 48) (v := .d (.sl 8 (List.map ePg r.pass))) rfl (og rfl (op_load_pt rfl Tryd.underlying50 rfl rfl rfl rfl rfl)) ?_
      refine dr_put (d := 49) (v := .pt 102 4) rfl (og rfl (of_eff (s_field_pt rfl Tryd.underlying90 rfl ti88 rfl rfl rfl) rfl)) ?_
      refine dr_put (d := 50) (v := .d (.sl 3 (List.map eSp t.stops))) rfl (og rfl (op_load_pt rfl Tryd.underlying88 rfl rfl rfl rfl rfl)) ?_
      refine dr_put (d := 51) (v := .d (.fl (.int .i64 (k : Int)))) rfl (og rfl (op_move rfl rfl rfl)) ?_
      refine dr_put (d := 52) (v := .el ((eSp (ix t.stops k)))) rfl (og rfl (s_index rfl Tryd.underlying88 ti100 rfl rfl (by omega) (row_at (by omega)) rfl)) ?_
      refine dr_put (d := 53) (v := .el ((List.drop 2 ((eSp (ix t.stops k)))))) rfl (og rfl (of_eff (s_field_el rfl Tryd.underlying100 rfl ti9 rfl rfl rfl) rfl)) ?_
      refine dr_put (d := 54) (v := .d (.fl (.string ((ix t.stops k).pass)))) rfl (og rfl (op_load_el rfl Tryd.underlying9 rfl rfl rfl rfl)) ?_
      refine dr_put (d := 55) (v := .d (.fl (.int .i64 ((pix r.pass ((ix t.stops k).pass)))))) rfl (og rfl (op_call rfl Tryd.func30 nm30 rfl (.cons rfl (.d _) (.cons rfl (.d _) .nil)) (pix30 r.pass ((ix t.stops k).pass) (by omega)) rfl)) ?_
      refine dr_put (d := 7) (v := .d (.fl (.int .i64 ((pix r.pass ((ix t.stops k).pass)))))) rfl (og rfl (op_assign rfl rfl rfl)) ?_
      refine dr_done rfl (by kernel_rfl) (by kernel_rfl) ?_
      refine a_rseq ?_
      refine rg_put (d := 8) (v := .d (.fl (.int .i64 0))) rfl (og rfl (op_assign rfl rfl rfl)) ?_
      refine rg_done rfl ?_
      refine a_block ?_
      refine a_loop (ι := Nat) (fun j => SS [(0, .d (.ag (eRs r))), (1, .d (.ag (eTp t))), (2, .pt 101 0), (3, .pt 102 0), (4, .d (.fl (.slice none 0 0))), (6, .d (.fl (.int .i64 (k : Int)))), (7, .d (.fl (.int .i64 ((pix r.pass ((ix t.stops k).pass)))))), (17, .d (.fl (.bool ((decide ((k : Int) < (t.stops.length : Int))))))), (26, .d (.fl (.bool ((sEq ((ix t.stops k).pass) (⟨#[]⟩)))))), (8, .d (.fl (.int .i64 (j : Int)))), (5, .ow 105)] [(101, .bx 56 (eRs r)), (102, .bx 90 (eTp t)), (105, .tr 81 3 (tD eFc (((([(Fc.mk ⟨#[116, 114, 105, 112]⟩ t.id 0)] ++ (cat (gS r) t.stops k)) ++ [(Fc.mk (⟨#[112, 97, 115, 115, 97, 103, 101]⟩) ((ix t.stops k).pass) 0)]) ++ (cat gD (ix r.pass (pix r.pass (ix t.stops k).pass).toNat).srcs j)))))]) (fun j => ((pix r.pass (ix t.stops k).pass) < 0 → j = 0) ∧ (0 ≤ (pix r.pass (ix t.stops k).pass) → j ≤ (ix r.pass (pix r.pass (ix t.stops k).pass).toNat).srcs.length)) (fun j => (ix r.pass (pix r.pass (ix t.stops k).pass).toNat).srcs.length - j) 0 (⟨fun _ => rfl, fun _ => by omega⟩) (imp_forget rfl ⟨rfl, rfl, rfl, rfl, rfl, rfl, rfl, rfl, rfl, (by first | rfl | exact ci (by omega) | exact ci (by simp) | exact cd (by simp) | simp), (by first | rfl | exact ci (by omega) | exact ci (by simp) | exact cd (by simp) | simp), trivial⟩ ⟨rfl, rfl, (congrArg (fun z => Ob.tr 81 3 (tD eFc z)) (List.append_nil _).symm), trivial⟩) (fun j hok => ?_)
      have hj := hok.1
      have hj2 := hok.2
      have hc2 := catD_le hr hj hj2
      refine a_seq ?_
      refine a_rseq ?_
      refine rg_put (d := 56) (v := .d (.fl (.int .i64 ((pix r.pass ((ix t.stops k).pass)))))) rfl (og rfl (op_move rfl rfl rfl)) ?_
      refine rg_put (d := 57) (v := .d (.fl (.bool ((decide (0 ≤ (pix r.pass ((ix t.stops k).pass)))))))) rfl (og rfl (op_bin rfl rfl rfl (b_geq _ _ _ _) rfl)) ?_
      refine rg_put (d := 58) (v := .d (.fl (.bool ((decide (0 ≤ (pix r.pass ((ix t.stops k).pass)))))))) rfl (og rfl (op_move rfl rfl rfl)) ?_
      rcases fot ((decide (0 ≤ (pix r.pass ((ix t.stops k).pass))))) with h4 | h4
      · skip
        have h5 := f_dec h4
        refine rg_put (d := 59) (v := .d (.fl undef)) rfl (on rfl rfl rfl h4) ?_
        refine rg_put (d := 60) (v := .d (.fl undef)) rfl (on rfl rfl rfl h4) ?_
        refine rg_put (d := 61) (v := .d (.fl undef)) rfl (on rfl rfl rfl h4) ?_
        refine rg_put (d := 62) (v := .d (.fl undef)) rfl (on rfl rfl rfl h4) ?_
        refine rg_put (d := 63) (v := .d (.fl undef)) rfl (on rfl rfl rfl h4) ?_
        refine rg_put (d := 64) (v := .d (.fl undef)) rfl (on rfl rfl rfl h4) ?_
        refine rg_put (d := 65) (v := .d (.fl undef)) rfl (on rfl rfl rfl h4) ?_
        refine rg_put (d := 66) (v := .d (.fl undef)) rfl (on rfl rfl rfl h4) ?_
        refine rg_put (d := 67) (v := .d (.fl undef)) rfl (on rfl rfl rfl h4) ?_
        refine rg_put (d := 68) (v := .d (.fl (.bool false))) rfl (og rfl (op_pick rfl rfl (by rw [h4]; rfl) rfl)) ?_
        refine rg_done rfl ?_
        refine a_condF rfl rfl ?_
        refine a_exit ?_
        show A _ _ _ _ _ _ _
        refine a_region ?_
        refine rg_put (d := 18) (v := .d (.fl (.int .i64 (k : Int)))) rfl (og rfl (op_move rfl rfl rfl)) ?_
        refine rg_put (d := 19) (v := .d (.fl (.int .i64 (((k : Int) + 1))))) rfl (og rfl (op_bin rfl rfl rfl (fun x y w => b_add64 _ _ _ x y w (by omega)) rfl)) ?_
        refine rg_put (d := 6) (v := .d (.fl (.int .i64 (((k : Int) + 1))))) rfl (og rfl (op_assign rfl rfl rfl)) ?_
        refine rg_done rfl ?_
        have hg := gS_no h3 h4
        have hj0 : j = 0 := by have := f_dec h4; omega
        rw [show (cat gD (ix r.pass (pix r.pass (ix t.stops k).pass).toNat).srcs j) = ([] : List Fc) from by rw [hj0]; rfl]
        show ∃ i, _ ∧ _ ∧ Imp _ _ _ _ _
        refine ⟨k + 1, (by omega), by omega, imp_ren (fun m => bif Nat.beq m 103 then 105 else m) rfl ⟨rfl, rfl, rfl, rfl, rfl, (by first | rfl | exact ci (by omega) | exact ci (by simp) | exact cd (by simp) | simp), rfl, trivial⟩ ⟨rfl, rfl, (congrArg (fun z => Ob.tr 81 3 (tD eFc z)) (cat_mid hg (by first | rfl | simp only [List.append_nil] | simp only [List.append_assoc, List.cons_append, List.nil_append]))), trivial⟩⟩
      · skip
        have h6 := t_dec h4
        refine rg_put (d := 59) (v := .d (.fl (.int .i64 (j : Int)))) rfl (oy rfl rfl rfl h4 (op_move rfl rfl rfl)) ?_
        refine rg_put (d := 60) (v := .pt 101 0) rfl (oy rfl rfl rfl h4 (of_eff (s_field_pt rfl Tryd.underlying56 rfl ti50 rfl rfl rfl) rfl)) ?_
        refine rg_put (d := 61) (v := .d (.sl 8 (List.map ePg r.pass))) rfl (oy rfl rfl rfl h4 (op_load_pt rfl Tryd.underlying50 rfl rfl rfl rfl rfl)) ?_
        refine rg_put (d := 62) (v := .d (.fl (.int .i64 ((pix r.pass ((ix t.stops k).pass)))))) rfl (oy rfl rfl rfl h4 (op_move rfl rfl rfl)) ?_
        refine rg_put (d := 63) (v := .el ((ePg ((ix r.pass ((pix r.pass ((ix t.stops k).pass))).toNat))))) rfl (oy rfl rfl rfl h4 (s_index rfl Tryd.underlying50 ti87 rfl rfl (by omega) (row_atI (by omega) (by omega)) rfl)) ?_
        refine rg_put (d := 64) (v := .el ((List.drop 7 ((ePg ((ix r.pass ((pix r.pass ((ix t.stops k).pass))).toNat))))))) rfl (oy rfl rfl rfl h4 (of_eff (s_field_el rfl Tryd.underlying87 rfl ti85 rfl rfl rfl) rfl)) ?_
        refine rg_put (d := 65) (v := .d (.sl 2 (List.map eSo (((ix r.pass ((pix r.pass ((ix t.stops k).pass))).toNat)).srcs)))) rfl (oy rfl rfl rfl h4 (op_load_el rfl Tryd.underlying85 rfl rfl rfl rfl)) ?_
        refine rg_put (d := 66) (v := .d (.fl (.int .i64 (((((ix r.pass ((pix r.pass ((ix t.stops k).pass))).toNat)).srcs).length : Int))))) rfl (oy rfl rfl rfl h4 (s_len rfl Tryd.underlying85 rfl rfl)) ?_
        refine rg_put (d := 67) (v := .d (.fl (.bool ((decide ((j : Int) < ((((ix r.pass ((pix r.pass ((ix t.stops k).pass))).toNat)).srcs).length : Int))))))) rfl (oy rfl rfl rfl h4 (op_bin rfl rfl rfl (b_lss _ _ _ _) rfl)) ?_
        refine rg_put (d := 68) (v := .d (.fl (.bool ((decide ((j : Int) < ((((ix r.pass ((pix r.pass ((ix t.stops k).pass))).toNat)).srcs).length : Int))))))) rfl (og rfl (op_pick rfl rfl (by rw [h4]; rfl) rfl)) ?_
        refine rg_done rfl ?_
        refine a_cond rfl (fun h7 => ?_) (fun h7 => ?_)
        · skip
          have h8 := t_dec h7
          refine a_skip ?_
          show A _ _ _ _ _ _ _
          refine a_seq ?_
          refine a_block ?_
          refine a_region ?_
          have hps := hr.2 (pix r.pass (ix t.stops k).pass).toNat (by omega)
          refine rg_put (d := 71) (v := .ow 105) rfl (og rfl (op_move rfl rfl rfl)) ?_
          refine rg_put (d := 72) (v := .pt 101 0) rfl (og rfl (of_eff (s_field_pt rfl Tryd.underlying56 rfl ti50 rfl rfl rfl) rfl)) ?_
          refine rg_put (d := 73) (v := .d (.sl 8 (List.map ePg r.pass))) rfl (og rfl (op_load_pt rfl Tryd.underlying50 rfl rfl rfl rfl rfl)) ?_
          refine rg_put (d := 74) (v := .d (.fl (.int .i64 ((pix r.pass ((ix t.stops k).pass)))))) rfl (og rfl (op_move rfl rfl rfl)) ?_
          refine rg_put (d := 75) (v := .el ((ePg ((ix r.pass ((pix r.pass ((ix t.stops k).pass))).toNat))))) rfl (og rfl (s_index rfl Tryd.underlying50 ti87 rfl rfl (by omega) (row_atI (by omega) (by omega)) rfl)) ?_
          refine rg_put (d := 76) (v := .el ((List.drop 7 ((ePg ((ix r.pass ((pix r.pass ((ix t.stops k).pass))).toNat))))))) rfl (og rfl (of_eff (s_field_el rfl Tryd.underlying87 rfl ti85 rfl rfl rfl) rfl)) ?_
          refine rg_put (d := 77) (v := .d (.sl 2 (List.map eSo (((ix r.pass ((pix r.pass ((ix t.stops k).pass))).toNat)).srcs)))) rfl (og rfl (op_load_el rfl Tryd.underlying85 rfl rfl rfl rfl)) ?_
          refine rg_put (d := 78) (v := .d (.fl (.int .i64 (j : Int)))) rfl (og rfl (op_move rfl rfl rfl)) ?_
          refine rg_put (d := 79) (v := .el ((eSo ((ix (((ix r.pass ((pix r.pass ((ix t.stops k).pass))).toNat)).srcs) j))))) rfl (og rfl (s_index rfl Tryd.underlying85 ti66 rfl rfl (by omega) (row_at (by omega)) rfl)) ?_
          refine rg_put (d := 80) (v := .d (.ag (eSo (((ix (((ix r.pass ((pix r.pass ((ix t.stops k).pass))).toNat)).srcs) j)))))) rfl (og rfl (of_eff (s_load_els rfl Tryd.underlying66 rfl ti66 rfl rfl rfl) rfl)) ?_
          refine rg_put (d := 81) (v := .d (.fl (.string ((nmS (((ix (((ix r.pass ((pix r.pass ((ix t.stops k).pass))).toNat)).srcs) j)))))))) rfl (og rfl (op_call rfl Tryd.func25 nm25 rfl (.cons rfl (.d _) .nil) (name25 (((ix (((ix r.pass ((pix r.pass ((ix t.stops k).pass))).toNat)).srcs) j))) ((hr.2 (pix r.pass (ix t.stops k).pass).toNat (by omega)).2 j (by omega))) rfl)) ?_
          refine rg_put (d := 82) (v := .d (.ag (eFc ((Fc.mk (⟨#[100, 101, 116, 101, 99, 116, 105, 111, 110]⟩) ((nmS (((ix (((ix r.pass ((pix r.pass ((ix t.stops k).pass))).toNat)).srcs) j))))) 0))))) rfl (og rfl (of_eff (op_build rfl Tryd.underlying81 ti81 rfl (by kernel_rfl) (by kernel_rfl) (pl := #[(0, 1), (1, 1), (2, 1)]) (by kernel_rfl) (.cons rfl rfl (.d _) rfl rfl rfl (.cons rfl rfl (.d _) rfl rfl rfl .nil)) rfl) rfl)) ?_
          refine rg_put (d := 83) (v := .d (.sl 3 (List.map eFc ([(Fc.mk (⟨#[100, 101, 116, 101, 99, 116, 105, 111, 110]⟩) ((nmS (((ix (((ix r.pass ((pix r.pass ((ix t.stops k).pass))).toNat)).srcs) j))))) 0)])))) rfl (og rfl (of_eff (op_slices rfl Tryd.underlying69 ti81 rfl rfl rfl (by kernel_rfl) (xs := [.ag (eFc ((Fc.mk (⟨#[100, 101, 116, 101, 99, 116, 105, 111, 110]⟩) ((nmS (((ix (((ix r.pass ((pix r.pass ((ix t.stops k).pass))).toNat)).srcs) j))))) 0)))]) rfl rfl (.cons rfl rfl (.d _) rfl rfl rfl .nil) rfl) rfl)) ?_
          refine rg_nam (d := 84) (v := .ow 106) (m := 106) (nw := [(106, .tr 81 3 (tD eFc ((((([(Fc.mk ⟨#[116, 114, 105, 112]⟩ t.id 0)] ++ (cat (gS r) t.stops k)) ++ [(Fc.mk (⟨#[112, 97, 115, 115, 97, 103, 101]⟩) ((ix t.stops k).pass) 0)]) ++ (cat gD (ix r.pass (pix r.pass (ix t.stops k).pass).toNat).srcs j)) ++ [(Fc.mk (⟨#[100, 101, 116, 101, 99, 116, 105, 111, 110]⟩) ((nmS (((ix (((ix r.pass ((pix r.pass ((ix t.stops k).pass))).toNat)).srcs) j))))) 0)])))), (105, .no)]) rfl (og rfl (of_eff (s_append_td 106 rfl Tryd.underlying69 ti81 rfl rfl rfl rfl rfl (.d _) (by simp only [List.length_append, List.length_cons, List.length_nil]; omega) rfl) rfl)) rfl ?_
          refine rg_put (d := 5) (v := .ow 106) rfl (og rfl (op_assign rfl rfl rfl)) ?_
          refine rg_done rfl ?_
          show A _ _ _ _ _ _ _
          refine a_region ?_
          refine rg_put (d := 69) (v := .d (.fl (.int .i64 (j : Int)))) rfl (og rfl (op_move rfl rfl rfl)) ?_
          refine rg_put (d := 70) (v := .d (.fl (.int .i64 (((j : Int) + 1))))) rfl (og rfl (op_bin rfl rfl rfl (fun x y w => b_add64 _ _ _ x y w (by omega)) rfl)) ?_
          refine rg_put (d := 8) (v := .d (.fl (.int .i64 (((j : Int) + 1))))) rfl (og rfl (op_assign rfl rfl rfl)) ?_
          refine rg_done rfl ?_
          have hg2 : cat gD (ix r.pass (pix r.pass (ix t.stops k).pass).toNat).srcs (j + 1) = cat gD (ix r.pass (pix r.pass (ix t.stops k).pass).toNat).srcs j ++ [Fc.mk ⟨#[100, 101, 116, 101, 99, 116, 105, 111, 110]⟩ (nmS (ix (ix r.pass (pix r.pass (ix t.stops k).pass).toNat).srcs j)) 0] := rfl
          show ∃ i, _ ∧ _ ∧ Imp _ _ _ _ _
          refine ⟨j + 1, ⟨fun h => by omega, fun _ => by omega⟩, by omega, imp_ren (fun m => bif Nat.beq m 105 then 106 else m) rfl ⟨rfl, rfl, rfl, rfl, rfl, rfl, rfl, rfl, rfl, (by first | rfl | exact ci (by omega) | exact ci (by simp) | exact cd (by simp) | simp), rfl, trivial⟩ ⟨rfl, rfl, (congrArg (fun z => Ob.tr 81 3 (tD eFc z)) (by rw [hg2, List.append_assoc] : _ = (([(Fc.mk ⟨#[116, 114, 105, 112]⟩ t.id 0)] ++ (cat (gS r) t.stops k)) ++ [(Fc.mk (⟨#[112, 97, 115, 115, 97, 103, 101]⟩) ((ix t.stops k).pass) 0)]) ++ cat gD (ix r.pass (pix r.pass (ix t.stops k).pass).toNat).srcs (j + 1))), trivial⟩⟩
        · skip
          have h9 := f_dec h7
          refine a_exit ?_
          show A _ _ _ _ _ _ _
          refine a_region ?_
          refine rg_put (d := 18) (v := .d (.fl (.int .i64 (k : Int)))) rfl (og rfl (op_move rfl rfl rfl)) ?_
          refine rg_put (d := 19) (v := .d (.fl (.int .i64 (((k : Int) + 1))))) rfl (og rfl (op_bin rfl rfl rfl (fun x y w => b_add64 _ _ _ x y w (by omega)) rfl)) ?_
          refine rg_put (d := 6) (v := .d (.fl (.int .i64 (((k : Int) + 1))))) rfl (og rfl (op_assign rfl rfl rfl)) ?_
          refine rg_done rfl ?_
          have hjl : j = (ix r.pass (pix r.pass (ix t.stops k).pass).toNat).srcs.length := by omega
          rw [show (cat gD (ix r.pass (pix r.pass (ix t.stops k).pass).toNat).srcs j) = (sF r (ix t.stops k).pass) from by rw [hjl]; rfl]
          have hg := gS_yes h3 h4
          show ∃ i, _ ∧ _ ∧ Imp _ _ _ _ _
          refine ⟨k + 1, (by omega), by omega, imp_ren (fun m => bif Nat.beq m 103 then 105 else m) rfl ⟨rfl, rfl, rfl, rfl, rfl, (by first | rfl | exact ci (by omega) | exact ci (by simp) | exact cd (by simp) | simp), rfl, trivial⟩ ⟨rfl, rfl, (congrArg (fun z => Ob.tr 81 3 (tD eFc z)) (cat_mid hg (by first | rfl | simp only [List.append_nil] | simp only [List.append_assoc, List.cons_append, List.nil_append]))), trivial⟩⟩
  · skip
    have h10 := f_dec h1
    refine a_exit ?_
    show A _ _ _ _ _ _ _
    refine a_rseq ?_
    refine rg_put (d := 85) (v := .ow 103) rfl (og rfl (op_move rfl rfl rfl)) ?_
    refine rg_put (d := 4) (v := .ow 103) rfl (og rfl (op_assign rfl rfl rfl)) ?_
    refine rg_done rfl ?_
    refine a_imp (imp_leakT 4 103 rfl rfl) ?_
    refine a_ret ?_
    show ∃ ds, ResL _ _ _ ds ∧ RV.of ds = _
    refine ⟨[.sl 3 (List.map eFc (([(Fc.mk ⟨#[116, 114, 105, 112]⟩ t.id 0)] ++ (cat (gS r) t.stops k))))], (.cons (.tmp rfl (.d _)) .nil), ?_⟩
    have hkl : k = t.stops.length := by omega
    subst hkl
    rfl
end Go.Proofs.YtgfbgkoifcacdaaDoor.Wk
