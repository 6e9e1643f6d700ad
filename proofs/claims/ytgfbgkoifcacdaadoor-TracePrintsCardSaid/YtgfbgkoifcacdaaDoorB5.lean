/- Explanations of detections and of passages. Conditions: lists of at most 1000 elements, strings that are not too long. -/
import Derived.Test.YtgfbgkoifcacdaaDoorB4
set_option linter.unusedSimpArgs false
set_option linter.unusedVariables false
namespace Go.Proofs.YtgfbgkoifcacdaaDoor.Wk
open Go Go.RowKit Go.Proofs.YtgfbgkoifcacdaaDoor.Av
def anyK {α : Type} [Inhabited α] (p : α → Bool) (l : List α) : Nat → Bool
  | 0 => false
  | k + 1 => anyK p l k || p (ix l k)
theorem anyK_take {α : Type} [Inhabited α] (p : α → Bool) (l : List α) : ∀ k, k ≤ l.length → anyK p l k = (l.take k).any p
  | 0, _ => by simp [anyK]
  | k + 1, h => by rw [anyK, anyK_take p l k (by omega), take_ix (by omega), List.any_append]; simp
theorem anyK_all {α : Type} [Inhabited α] (p : α → Bool) (l : List α) : anyK p l l.length = l.any p := by rw [anyK_take p l _ (Nat.le_refl _), List.take_length]
theorem anyK_t {α : Type} [Inhabited α] {p : α → Bool} {l : List α} {k : Nat} (h : anyK p l k = true) : true = anyK p l (k + 1) := by show _ = (anyK p l k || p (ix l k)); rw [h]; rfl
theorem anyK_f {α : Type} [Inhabited α] {p : α → Bool} {l : List α} {k : Nat} (h : anyK p l k = false) : p (ix l k) = anyK p l (k + 1) := by show _ = (anyK p l k || p (ix l k)); rw [h]; rfl
def gR (x : So) (e : Rj) : List Fc := if isD e.d x = true then [Fc.mk ⟨#[114, 101, 106, 101, 99, 116]⟩ (nmS x) e.why] else []
def gPa (r : Rs) (x : So) (p : Pg) : List Fc := if hasP p.srcs x = true then fct r p.id else []
def okT (r : Rs) : Prop := r.trips.length ≤ 1000 ∧ r.exc.length ≤ 1000 ∧ r.chg.length ≤ 1000 ∧ r.rej.length ≤ 1000 ∧ r.stays.length ≤ 1000 ∧ (∀ q, q < r.trips.length → (ix r.trips q).stops.length ≤ 1000 ∧ (ix r.trips q).id.size ≤ 9000000000000000000) ∧ (∀ q, q < r.stays.length → (ix r.stays q).id.size ≤ 9000000000000000000) ∧ (∀ q, q < r.chg.length → (ix r.chg q).lines.length ≤ 1000) ∧ okR r
def okSt (s : Sa) : Prop := s.seen.length ≤ 1000 ∧ s.rej.length ≤ 1000 ∧ okT s.res ∧ s.cfg.acc.length ≤ 1000 ∧ (∀ q, q < s.cfg.acc.length → (ix s.cfg.acc q).owned.length ≤ 1000) ∧ s.books.done.length ≤ 1000
theorem gR_len (x : So) (e : Rj) : (gR x e).length ≤ 1 := by unfold gR; split <;> simp
theorem gPa_len {r : Rs} (x : So) (h : okT r) (p : Pg) : (gPa r x p).length ≤ 4000 := by
  unfold gPa
  split
  · exact fct_len r p.id h.1 h.2.1
  · simp
def dtc (s : Sa) (x : So) : List Fc × Int := if knw s x = true then (([Fc.mk ⟨#[100, 101, 116, 101, 99, 116, 105, 111, 110]⟩ (nmS x) 0] ++ cat (gR x) s.res.rej s.res.rej.length) ++ cat (gPa s.res x) s.res.pass s.res.pass.length, 0) else ([], 10)
theorem dtc_no {s : Sa} {x : So} (h : knw s x = false) : dtc s x = ([], 10) := by unfold dtc; rw [if_neg (by rw [h]; decide)]
theorem dtc_yes {s : Sa} {x : So} (h : knw s x = true) : dtc s x = (([Fc.mk ⟨#[100, 101, 116, 101, 99, 116, 105, 111, 110]⟩ (nmS x) 0] ++ cat (gR x) s.res.rej s.res.rej.length) ++ cat (gPa s.res x) s.res.pass s.res.pass.length, 0) := by unfold dtc; rw [if_pos h]
def psg (s : Sa) (id : ByteArray) : List Fc × Int := if (s.res.pass.any fun p => sEq p.id id) = true then (fct s.res id, 0) else ([], 10)
theorem psg_no {s : Sa} {id : ByteArray} (h : (s.res.pass.any fun p => sEq p.id id) = false) : psg s id = ([], 10) := by unfold psg; rw [if_neg (by rw [h]; decide)]
theorem psg_yes {s : Sa} {id : ByteArray} (h : (s.res.pass.any fun p => sEq p.id id) = true) : psg s id = (fct s.res id, 0) := by unfold psg; rw [if_pos h]
theorem pix_any {l : List Pg} {id : ByteArray} {b : Bool} (h : decide (pix l id < 0) = b) : (l.any fun p => sEq p.id id) = !b := by rw [← lt_ge h]; exact (idx_any _ _).symm

set_option maxHeartbeats 4000000 in
set_option maxRecDepth 100000 in
theorem dtc9 (s : Sa) (x : So) (hs : okSt s) (hx0 : okS x) : CtrK Tryd.prog KK 9 [.ag (eSa s), .ag (eSo x)] (.tu [.sl 3 (List.map eFc (dtc s x).1), .fl (.int .i64 (dtc s x).2)]) := by
  obtain ⟨hs1, hs2, hT, hs4, hs5, hs6⟩ := hs
  refine ctrK (n := 72) (rs := #[.tmp 4, .tmp 5]) (L := [(0, .d (.ag (eSa s))), (1, .d (.ag (eSo x)))]) Tryd.func9 rfl rfl rfl rfl rfl (fun w0 U0 hG => ?_)
  refine a_rseq ?_
  refine rg_nam (d := 2) (v := .pt 101 0) (m := 101) (nw := [(101, .bx 64 (eSa s))]) rfl (og rfl (of_eff (op_box 101 rfl rfl rfl rfl) rfl)) rfl ?_
  refine rg_nam (d := 3) (v := .pt 102 0) (m := 102) (nw := [(102, .bx 66 (eSo x))]) rfl (og rfl (of_eff (op_box 102 rfl rfl rfl rfl) rfl)) rfl ?_
  refine rg_put (d := 4) (v := .d (.fl (.slice none 0 0))) rfl (og rfl (op_assign rfl rfl rfl)) ?_
  refine rg_put (d := 5) (v := .d (.fl (.int .i64 0))) rfl (og rfl (op_assign rfl rfl rfl)) ?_
  refine rg_done rfl ?_
  refine a_seq ?_
  refine a_rseq ?_
  refine rg_put (d := 12) (v := .d (.ag (eSa s))) rfl (og rfl (of_eff (s_load_pts rfl Tryd.underlying64 rfl ti64 rfl rfl rfl rfl) rfl)) ?_
  refine rg_put (d := 13) (v := .d (.ag (eSo x))) rfl (og rfl (of_eff (s_load_pts rfl Tryd.underlying66 rfl ti66 rfl rfl rfl rfl) rfl)) ?_
  refine rg_put (d := 14) (v := .d (.fl (.bool (knw s x)))) rfl (og rfl (op_call rfl Tryd.func20 nm20 rfl (.cons rfl (.d _) (.cons rfl (.d _) .nil)) (knw20 s x hs1 hs2 hT.2.2.2.1) rfl)) ?_
  refine rg_put (d := 15) (v := .d (.fl (.bool ((!(knw s x)))))) rfl (og rfl (op_un rfl rfl (u_not _) rfl)) ?_
  refine rg_done rfl ?_
  refine a_cond rfl (fun h1 => ?_) (fun h1 => ?_)
  · skip
    have h2 := t_not h1
    refine a_rseq ?_
    refine rg_put (d := 4) (v := .d (.fl (.slice none 0 0))) rfl (og rfl (op_assign rfl rfl rfl)) ?_
    refine rg_put (d := 5) (v := .d (.fl (.int .i64 10))) rfl (og rfl (op_assign rfl rfl rfl)) ?_
    refine rg_done rfl ?_
    refine a_ret ?_
    show ∃ ds, ResL _ _ _ ds ∧ RV.of ds = _
    refine ⟨[.sl 3 (List.map eFc []), .fl (.int .i64 10)], (.cons (.tmp rfl (.cv (Cv.nil _))) (.cons (.tmp rfl (.d _)) .nil)), ?_⟩
    rw [dtc_no h2]; rfl
  · skip
    have h3 := f_not h1
    refine a_skip ?_
    show A _ _ _ _ _ _ _
    refine a_rseq ?_
    refine rg_put (d := 16) (v := .d (.ag (eSo x))) rfl (og rfl (of_eff (s_load_pts rfl Tryd.underlying66 rfl ti66 rfl rfl rfl rfl) rfl)) ?_
    refine rg_put (d := 17) (v := .d (.fl (.string (nmS x)))) rfl (og rfl (op_callK kkst hG rfl Tryd.func21 nm21 rfl (.cons rfl (.d _) .nil) (name21 x hx0) rfl)) ?_
    refine rg_put (d := 6) (v := .d (.fl (.string (nmS x)))) rfl (og rfl (op_assign rfl rfl rfl)) ?_
    refine rg_done rfl ?_
    refine a_rseq ?_
    refine rg_put (d := 18) (v := .d (.fl (.string (nmS x)))) rfl (og rfl (op_move rfl rfl rfl)) ?_
    refine rg_put (d := 19) (v := .d (.ag (eFc ((Fc.mk (⟨#[100, 101, 116, 101, 99, 116, 105, 111, 110]⟩) (nmS x) 0))))) rfl (og rfl (of_eff (op_build rfl Tryd.underlying81 ti81 rfl (by kernel_rfl) (by kernel_rfl) (pl := #[(0, 1), (1, 1), (2, 1)]) (by kernel_rfl) (.cons rfl rfl (.d _) rfl rfl rfl (.cons rfl rfl (.d _) rfl rfl rfl .nil)) rfl) rfl)) ?_
    refine rg_nam (d := 20) (v := .ow 103) (m := 103) (nw := [(103, .tr 81 3 (tD eFc ([(Fc.mk (⟨#[100, 101, 116, 101, 99, 116, 105, 111, 110]⟩) (nmS x) 0)])))]) rfl (og rfl (of_eff (of_eff (op_sliceB 103 rfl Tryd.underlying69 ti81 rfl rfl rfl (by kernel_rfl) (xs := [.ag (eFc ((Fc.mk (⟨#[100, 101, 116, 101, 99, 116, 105, 111, 110]⟩) (nmS x) 0)))]) rfl rfl (.cons rfl rfl (.d _) rfl rfl rfl .nil) rfl) rfl) rfl)) rfl ?_
    refine rg_put (d := 7) (v := .ow 103) rfl (og rfl (op_assign rfl rfl rfl)) ?_
    refine rg_done rfl ?_
    refine a_seq ?_
    refine a_rseq ?_
    refine rg_put (d := 21) (v := .pt 101 29) rfl (og rfl (of_eff (s_field_pt rfl Tryd.underlying64 rfl ti56 rfl rfl rfl) rfl)) ?_
    refine rg_put (d := 22) (v := .pt 101 30) rfl (og rfl (of_eff (s_field_pt rfl Tryd.underlying56 rfl ti48 rfl rfl rfl) rfl)) ?_
    refine rg_put (d := 23) (v := .d (.sl 8 (List.map eRj s.res.rej))) rfl (og rfl (op_load_pt rfl Tryd.underlying48 rfl rfl rfl rfl rfl)) ?_
    refine rg_put (d := 24) (v := .d (.fl (.int .i64 (s.res.rej.length : Int)))) rfl (og rfl (s_len rfl Tryd.underlying48 rfl rfl)) ?_
    refine rg_put (d := 25) (v := .d (.fl (.int .i64 0))) rfl (og rfl (op_move rfl rfl rfl)) ?_
    refine rg_done rfl ?_
    refine a_block ?_
    refine a_loop (ι := Nat) (fun k => SS [(0, .d (.ag (eSa s))), (1, .d (.ag (eSo x))), (2, .pt 101 0), (3, .pt 102 0), (4, .d (.fl (.slice none 0 0))), (5, .d (.fl (.int .i64 0))), (6, .d (.fl (.string (nmS x)))), (15, .d (.fl (.bool ((!(knw s x)))))), (23, .d (.sl 8 (List.map eRj s.res.rej))), (24, .d (.fl (.int .i64 (s.res.rej.length : Int)))), (25, .d (.fl (.int .i64 (k : Int)))), (7, .ow 103)] [(101, .bx 64 (eSa s)), (102, .bx 66 (eSo x)), (103, .tr 81 3 (tD eFc (([(Fc.mk ⟨#[100, 101, 116, 101, 99, 116, 105, 111, 110]⟩ (nmS x) 0)] ++ (cat (gR x) s.res.rej k)))))]) (fun k => k ≤ s.res.rej.length) (fun k => s.res.rej.length - k) 0 (by omega) (imp_forget rfl ⟨rfl, rfl, rfl, rfl, rfl, rfl, rfl, rfl, rfl, rfl, (by first | rfl | exact ci (by omega) | exact ci (by simp) | exact cd (by simp) | simp), (by first | rfl | exact ci (by omega) | exact ci (by simp) | exact cd (by simp) | simp), trivial⟩ ⟨rfl, rfl, rfl, trivial⟩) (fun k hok => ?_)
    have hk := hok
    have hc1 := cat_len (g := gR x) (l := s.res.rej) (c := 1) (fun e _ => gR_len x e) k hk
    have hrl := hT.2.2.2.1
    refine a_rseq ?_
    refine rg_put (d := 26) (v := .d (.fl (.bool ((decide ((k : Int) < (s.res.rej.length : Int))))))) rfl (og rfl (op_bin rfl rfl rfl (b_lss _ _ _ _) rfl)) ?_
    refine rg_done rfl ?_
    refine a_seq ?_
    refine a_cond rfl (fun h4 => ?_) (fun h4 => ?_)
    · skip
      have h5 := t_dec h4
      refine a_skip ?_
      show A _ _ _ _ _ _ _
      refine a_seq ?_
      refine a_block ?_
      refine a_rseq ?_
      refine rg_put (d := 27) (v := .el ((eRj (ix s.res.rej k)))) rfl (og rfl (s_index rfl Tryd.underlying48 ti109 rfl rfl (by omega) (row_at (by omega)) rfl)) ?_
      refine rg_put (d := 28) (v := .d (.ag (eRj (ix s.res.rej k)))) rfl (og rfl (of_eff (s_load_els rfl Tryd.underlying109 rfl ti109 rfl rfl rfl) rfl)) ?_
      refine rg_nam (d := 9) (v := .pt 104 0) (m := 104) (nw := [(104, .bx 109 ([.fl (.string (⟨#[]⟩)), .fl (.int .i64 0), .fl (.int .i64 0), .fl (.string (⟨#[]⟩)), .fl (.string (⟨#[]⟩)), .fl (.int .i64 0), .fl (.int .i64 0), .fl (.int .i64 0)]))]) rfl (og rfl (of_eff (s_alloc 104 rfl ti109 (by kernel_rfl) rfl) rfl)) rfl ?_
      refine rg_sto (nw := [(104, .bx 109 ((eRj (ix s.res.rej k))))]) rfl (og rfl (of_eff (s_store rfl rfl ti109 rfl rfl rfl rfl rfl rfl) rfl)) ?_
      refine rg_done rfl ?_
      refine a_rseq ?_
      refine rg_put (d := 29) (v := .pt 104 0) rfl (og rfl (of_eff (s_field_pt rfl Tryd.underlying109 rfl ti104 rfl rfl rfl) rfl)) ?_
      refine rg_put (d := 30) (v := .pt 104 0) rfl (og rfl (of_eff (s_field_pt rfl Tryd.underlying104 rfl ti9 rfl rfl rfl) rfl)) ?_
      refine rg_put (d := 31) (v := .d (.fl (.string (((ix s.res.rej k).d).dev)))) rfl (og rfl (op_load_pt rfl Tryd.underlying9 rfl rfl rfl rfl rfl)) ?_
      refine rg_put (d := 32) (v := .pt 102 0) rfl (og rfl (of_eff (s_field_pt rfl Tryd.underlying66 rfl ti9 rfl rfl rfl) rfl)) ?_
      refine rg_put (d := 33) (v := .d (.fl (.string x.dev))) rfl (og rfl (op_load_pt rfl Tryd.underlying9 rfl rfl rfl rfl rfl)) ?_
      refine rg_put (d := 34) (v := .d (.fl (.bool ((sEq (((ix s.res.rej k).d).dev) x.dev))))) rfl (og rfl (op_bin rfl rfl rfl (b_seq _ _ _) rfl)) ?_
      refine rg_put (d := 35) (v := .d (.fl (.bool ((sEq (((ix s.res.rej k).d).dev) x.dev))))) rfl (og rfl (op_move rfl rfl rfl)) ?_
      rcases fot ((sEq (((ix s.res.rej k).d).dev) x.dev)) with h6 | h6
      · skip
        refine rg_put (d := 36) (v := .d (.fl undef)) rfl (on rfl rfl rfl h6) ?_
        refine rg_put (d := 37) (v := .d (.fl undef)) rfl (on rfl rfl rfl h6) ?_
        refine rg_put (d := 38) (v := .d (.fl undef)) rfl (on rfl rfl rfl h6) ?_
        refine rg_put (d := 39) (v := .d (.fl undef)) rfl (on rfl rfl rfl h6) ?_
        refine rg_put (d := 40) (v := .d (.fl undef)) rfl (on rfl rfl rfl h6) ?_
        refine rg_put (d := 41) (v := .d (.fl undef)) rfl (on rfl rfl rfl h6) ?_
        refine rg_put (d := 42) (v := .d (.fl (.bool false))) rfl (og rfl (op_pick rfl rfl (by rw [h6]; rfl) rfl)) ?_
        refine rg_done rfl ?_
        refine a_condF rfl rfl ?_
        refine a_skip ?_
        show A _ _ _ _ _ _ _
        refine a_region ?_
        refine rg_put (d := 50) (v := .d (.fl (.int .i64 (((k : Int) + 1))))) rfl (og rfl (op_bin rfl rfl rfl (fun x y w => b_add64 _ _ _ x y w (by omega)) rfl)) ?_
        refine rg_put (d := 25) (v := .d (.fl (.int .i64 (((k : Int) + 1))))) rfl (og rfl (op_move rfl rfl rfl)) ?_
        refine rg_done rfl ?_
        have hx : isD (ix s.res.rej k).d x = false := by unfold isD; simp only [h6, Bool.true_and, Bool.false_and, Bool.and_true, Bool.and_false, Bool.or_true, Bool.or_false, Bool.true_or, Bool.false_or, Bool.not_true, Bool.not_false] <;> rfl
        have hg : gR x (ix s.res.rej k) = [] := by unfold gR; rw [if_neg (by rw [hx]; decide)]
        show ∃ i, _ ∧ _ ∧ Imp _ _ _ _ _
        refine ⟨k + 1, (by omega), by omega, imp_forget rfl ⟨rfl, rfl, rfl, rfl, rfl, rfl, rfl, rfl, rfl, rfl, (by first | rfl | exact ci (by omega) | exact ci (by simp) | exact cd (by simp) | simp), rfl, trivial⟩ ⟨rfl, rfl, (congrArg (fun z => Ob.tr 81 3 (tD eFc z)) (cat_eq hg (by first | rfl | simp only [List.append_nil] | simp only [List.append_assoc, List.cons_append, List.nil_append]))), trivial⟩⟩
      · skip
        refine rg_put (d := 36) (v := .pt 104 0) rfl (oy rfl rfl rfl h6 (of_eff (s_field_pt rfl Tryd.underlying109 rfl ti104 rfl rfl rfl) rfl)) ?_
        refine rg_put (d := 37) (v := .pt 104 1) rfl (oy rfl rfl rfl h6 (of_eff (s_field_pt rfl Tryd.underlying104 rfl ti3 rfl rfl rfl) rfl)) ?_
        refine rg_put (d := 38) (v := .d (.fl (.int .i64 (((ix s.res.rej k).d).seq)))) rfl (oy rfl rfl rfl h6 (op_load_pt rfl Tryd.underlying3 rfl rfl rfl rfl rfl)) ?_
        refine rg_put (d := 39) (v := .pt 102 1) rfl (oy rfl rfl rfl h6 (of_eff (s_field_pt rfl Tryd.underlying66 rfl ti3 rfl rfl rfl) rfl)) ?_
        refine rg_put (d := 40) (v := .d (.fl (.int .i64 x.seq))) rfl (oy rfl rfl rfl h6 (op_load_pt rfl Tryd.underlying3 rfl rfl rfl rfl rfl)) ?_
        refine rg_put (d := 41) (v := .d (.fl (.bool ((((ix s.res.rej k).d).seq == x.seq))))) rfl (oy rfl rfl rfl h6 (op_bin rfl rfl rfl (b_eql _ _ _ _) rfl)) ?_
        refine rg_put (d := 42) (v := .d (.fl (.bool ((((ix s.res.rej k).d).seq == x.seq))))) rfl (og rfl (op_pick rfl rfl (by rw [h6]; rfl) rfl)) ?_
        refine rg_done rfl ?_
        refine a_cond rfl (fun h7 => ?_) (fun h7 => ?_)
        · skip
          have h8 := t_beq h7
          refine a_region ?_
          refine rg_put (d := 43) (v := .ow 103) rfl (og rfl (op_move rfl rfl rfl)) ?_
          refine rg_put (d := 44) (v := .d (.fl (.string (nmS x)))) rfl (og rfl (op_move rfl rfl rfl)) ?_
          refine rg_put (d := 45) (v := .pt 104 7) rfl (og rfl (of_eff (s_field_pt rfl Tryd.underlying109 rfl ti3 rfl rfl rfl) rfl)) ?_
          refine rg_put (d := 46) (v := .d (.fl (.int .i64 ((ix s.res.rej k).why)))) rfl (og rfl (op_load_pt rfl Tryd.underlying3 rfl rfl rfl rfl rfl)) ?_
          refine rg_put (d := 47) (v := .d (.ag (eFc ((Fc.mk (⟨#[114, 101, 106, 101, 99, 116]⟩) (nmS x) ((ix s.res.rej k).why)))))) rfl (og rfl (of_eff (op_build rfl Tryd.underlying81 ti81 rfl (by kernel_rfl) (by kernel_rfl) (pl := #[(0, 1), (1, 1), (2, 1)]) (by kernel_rfl) (.cons rfl rfl (.d _) rfl rfl rfl (.cons rfl rfl (.d _) rfl rfl rfl (.cons rfl rfl (.d _) rfl rfl rfl .nil))) rfl) rfl)) ?_
          refine rg_put (d := 48) (v := .d (.sl 3 (List.map eFc ([(Fc.mk (⟨#[114, 101, 106, 101, 99, 116]⟩) (nmS x) ((ix s.res.rej k).why))])))) rfl (og rfl (of_eff (op_slices rfl Tryd.underlying69 ti81 rfl rfl rfl (by kernel_rfl) (xs := [.ag (eFc ((Fc.mk (⟨#[114, 101, 106, 101, 99, 116]⟩) (nmS x) ((ix s.res.rej k).why))))]) rfl rfl (.cons rfl rfl (.d _) rfl rfl rfl .nil) rfl) rfl)) ?_
          refine rg_nam (d := 49) (v := .ow 105) (m := 105) (nw := [(105, .tr 81 3 (tD eFc ((([(Fc.mk ⟨#[100, 101, 116, 101, 99, 116, 105, 111, 110]⟩ (nmS x) 0)] ++ (cat (gR x) s.res.rej k)) ++ [(Fc.mk (⟨#[114, 101, 106, 101, 99, 116]⟩) (nmS x) ((ix s.res.rej k).why))])))), (103, .no)]) rfl (og rfl (of_eff (s_append_td 105 rfl Tryd.underlying69 ti81 rfl rfl rfl rfl rfl (.d _) (by simp only [List.length_append, List.length_cons, List.length_nil]; omega) rfl) rfl)) rfl ?_
          refine rg_put (d := 7) (v := .ow 105) rfl (og rfl (op_assign rfl rfl rfl)) ?_
          refine rg_done rfl ?_
          show A _ _ _ _ _ _ _
          refine a_region ?_
          refine rg_put (d := 50) (v := .d (.fl (.int .i64 (((k : Int) + 1))))) rfl (og rfl (op_bin rfl rfl rfl (fun x y w => b_add64 _ _ _ x y w (by omega)) rfl)) ?_
          refine rg_put (d := 25) (v := .d (.fl (.int .i64 (((k : Int) + 1))))) rfl (og rfl (op_move rfl rfl rfl)) ?_
          refine rg_done rfl ?_
          have hx : isD (ix s.res.rej k).d x = true := by unfold isD; simp only [h6, h7, Bool.true_and, Bool.false_and, Bool.and_true, Bool.and_false, Bool.or_true, Bool.or_false, Bool.true_or, Bool.false_or, Bool.not_true, Bool.not_false] <;> rfl
          have hg : gR x (ix s.res.rej k) = [Fc.mk ⟨#[114, 101, 106, 101, 99, 116]⟩ (nmS x) (ix s.res.rej k).why] := by unfold gR; rw [if_pos hx]
          show ∃ i, _ ∧ _ ∧ Imp _ _ _ _ _
          refine ⟨k + 1, (by omega), by omega, imp_ren (fun m => bif Nat.beq m 103 then 105 else m) rfl ⟨rfl, rfl, rfl, rfl, rfl, rfl, rfl, rfl, rfl, rfl, (by first | rfl | exact ci (by omega) | exact ci (by simp) | exact cd (by simp) | simp), rfl, trivial⟩ ⟨rfl, rfl, (congrArg (fun z => Ob.tr 81 3 (tD eFc z)) (cat_eq hg (by first | rfl | simp only [List.append_nil] | simp only [List.append_assoc, List.cons_append, List.nil_append]))), trivial⟩⟩
        · skip
          have h9 := f_beq h7
          refine a_skip ?_
          show A _ _ _ _ _ _ _
          refine a_region ?_
          refine rg_put (d := 50) (v := .d (.fl (.int .i64 (((k : Int) + 1))))) rfl (og rfl (op_bin rfl rfl rfl (fun x y w => b_add64 _ _ _ x y w (by omega)) rfl)) ?_
          refine rg_put (d := 25) (v := .d (.fl (.int .i64 (((k : Int) + 1))))) rfl (og rfl (op_move rfl rfl rfl)) ?_
          refine rg_done rfl ?_
          have hx : isD (ix s.res.rej k).d x = false := by unfold isD; simp only [h6, h7, Bool.true_and, Bool.false_and, Bool.and_true, Bool.and_false, Bool.or_true, Bool.or_false, Bool.true_or, Bool.false_or, Bool.not_true, Bool.not_false] <;> rfl
          have hg : gR x (ix s.res.rej k) = [] := by unfold gR; rw [if_neg (by rw [hx]; decide)]
          show ∃ i, _ ∧ _ ∧ Imp _ _ _ _ _
          refine ⟨k + 1, (by omega), by omega, imp_forget rfl ⟨rfl, rfl, rfl, rfl, rfl, rfl, rfl, rfl, rfl, rfl, (by first | rfl | exact ci (by omega) | exact ci (by simp) | exact cd (by simp) | simp), rfl, trivial⟩ ⟨rfl, rfl, (congrArg (fun z => Ob.tr 81 3 (tD eFc z)) (cat_eq hg (by first | rfl | simp only [List.append_nil] | simp only [List.append_assoc, List.cons_append, List.nil_append]))), trivial⟩⟩
    · skip
      have h10 := f_dec h4
      refine a_exit ?_
      show A _ _ _ _ _ _ _
      refine a_seq ?_
      refine a_rseq ?_
      have hkl : k = s.res.rej.length := by omega
      rw [show (cat (gR x) s.res.rej k) = (cat (gR x) s.res.rej s.res.rej.length) from by rw [hkl]]
      have hrl := hT.2.2.2.1
      have hc1 := cat_len (g := gR x) (l := s.res.rej) (c := 1) (fun e _ => gR_len x e) s.res.rej.length (Nat.le_refl _)
      refine rg_put (d := 51) (v := .pt 101 29) rfl (og rfl (of_eff (s_field_pt rfl Tryd.underlying64 rfl ti56 rfl rfl rfl) rfl)) ?_
      refine rg_put (d := 52) (v := .pt 101 29) rfl (og rfl (of_eff (s_field_pt rfl Tryd.underlying56 rfl ti50 rfl rfl rfl) rfl)) ?_
      refine rg_put (d := 53) (v := .d (.sl 8 (List.map ePg s.res.pass))) rfl (og rfl (op_load_pt rfl Tryd.underlying50 rfl rfl rfl rfl rfl)) ?_
      refine rg_put (d := 54) (v := .d (.fl (.int .i64 (s.res.pass.length : Int)))) rfl (og rfl (s_len rfl Tryd.underlying50 rfl rfl)) ?_
      refine rg_put (d := 55) (v := .d (.fl (.int .i64 0))) rfl (og rfl (op_move rfl rfl rfl)) ?_
      refine rg_done rfl ?_
      refine a_block ?_
      refine a_loop (ι := Nat) (fun j => SS [(0, .d (.ag (eSa s))), (1, .d (.ag (eSo x))), (2, .pt 101 0), (3, .pt 102 0), (4, .d (.fl (.slice none 0 0))), (5, .d (.fl (.int .i64 0))), (6, .d (.fl (.string (nmS x)))), (15, .d (.fl (.bool ((!(knw s x)))))), (23, .d (.sl 8 (List.map eRj s.res.rej))), (24, .d (.fl (.int .i64 (s.res.rej.length : Int)))), (25, .d (.fl (.int .i64 (k : Int)))), (26, .d (.fl (.bool ((decide ((k : Int) < (s.res.rej.length : Int))))))), (53, .d (.sl 8 (List.map ePg s.res.pass))), (54, .d (.fl (.int .i64 (s.res.pass.length : Int)))), (55, .d (.fl (.int .i64 (j : Int)))), (7, .ow 103)] [(101, .bx 64 (eSa s)), (102, .bx 66 (eSo x)), (103, .tr 81 3 (tD eFc ((([(Fc.mk ⟨#[100, 101, 116, 101, 99, 116, 105, 111, 110]⟩ (nmS x) 0)] ++ (cat (gR x) s.res.rej s.res.rej.length)) ++ (cat (gPa s.res x) s.res.pass j)))))]) (fun j => j ≤ s.res.pass.length) (fun j => s.res.pass.length - j) 0 (by omega) (imp_forget rfl ⟨rfl, rfl, rfl, rfl, rfl, rfl, rfl, rfl, rfl, rfl, rfl, rfl, rfl, rfl, (by first | rfl | exact ci (by omega) | exact ci (by simp) | exact cd (by simp) | simp), (by first | rfl | exact ci (by omega) | exact ci (by simp) | exact cd (by simp) | simp), trivial⟩ ⟨rfl, rfl, (congrArg (fun z => Ob.tr 81 3 (tD eFc z)) (List.append_nil _).symm), trivial⟩) (fun j hok => ?_)
      have hj := hok
      have hc2 := cat_len (g := gPa s.res x) (l := s.res.pass) (c := 4000) (fun e _ => gPa_len x hT e) j hj
      have hf := fct_len s.res (ix s.res.pass j).id hT.1 hT.2.1
      have hpl := hT.2.2.2.2.2.2.2.2.1
      refine a_rseq ?_
      refine rg_put (d := 56) (v := .d (.fl (.bool ((decide ((j : Int) < (s.res.pass.length : Int))))))) rfl (og rfl (op_bin rfl rfl rfl (b_lss _ _ _ _) rfl)) ?_
      refine rg_done rfl ?_
      refine a_seq ?_
      refine a_cond rfl (fun h11 => ?_) (fun h11 => ?_)
      · skip
        have h12 := t_dec h11
        refine a_skip ?_
        show A _ _ _ _ _ _ _
        refine a_seq ?_
        refine a_block ?_
        refine a_rseq ?_
        refine rg_put (d := 57) (v := .el ((ePg (ix s.res.pass j)))) rfl (og rfl (s_index rfl Tryd.underlying50 ti87 rfl rfl (by omega) (row_at (by omega)) rfl)) ?_
        refine rg_put (d := 58) (v := .d (.ag (ePg (ix s.res.pass j)))) rfl (og rfl (of_eff (s_load_els rfl Tryd.underlying87 rfl ti87 rfl rfl rfl) rfl)) ?_
        refine rg_nam (d := 11) (v := .pt 106 0) (m := 106) (nw := [(106, .bx 87 ([.fl (.string (⟨#[]⟩)), .fl (.string (⟨#[]⟩)), .fl (.int .i64 0), .fl (.string (⟨#[]⟩)), .fl (.string (⟨#[]⟩)), .fl (.int .i64 0), .fl (.int .i64 0), .fl (.slice none 0 0)]))]) rfl (og rfl (of_eff (s_alloc 106 rfl ti87 (by kernel_rfl) rfl) rfl)) rfl ?_
        refine rg_sto (nw := [(106, .bx 87 ((ePg (ix s.res.pass j))))]) rfl (og rfl (of_eff (s_store rfl rfl ti87 rfl rfl rfl rfl rfl rfl) rfl)) ?_
        refine rg_done rfl ?_
        refine a_rseq ?_
        refine rg_put (d := 59) (v := .pt 106 7) rfl (og rfl (of_eff (s_field_pt rfl Tryd.underlying87 rfl ti85 rfl rfl rfl) rfl)) ?_
        refine rg_put (d := 60) (v := .d (.sl 2 (List.map eSo ((ix s.res.pass j).srcs)))) rfl (og rfl (op_load_pt rfl Tryd.underlying85 rfl rfl rfl rfl rfl)) ?_
        refine rg_put (d := 61) (v := .d (.ag (eSo x))) rfl (og rfl (of_eff (s_load_pts rfl Tryd.underlying66 rfl ti66 rfl rfl rfl rfl) rfl)) ?_
        refine rg_put (d := 62) (v := .d (.fl (.bool ((hasP ((ix s.res.pass j).srcs) x))))) rfl (og rfl (op_call rfl Tryd.func22 nm22 rfl (.cons rfl (.d _) (.cons rfl (.d _) .nil)) (has22 ((ix s.res.pass j).srcs) x (by have := hT.2.2.2.2.2.2.2.2.2 j (by omega); omega)) rfl)) ?_
        refine rg_done rfl ?_
        refine a_cond rfl (fun h13 => ?_) (fun h13 => ?_)
        · skip
          refine a_region ?_
          refine rg_put (d := 63) (v := .ow 103) rfl (og rfl (op_move rfl rfl rfl)) ?_
          refine rg_put (d := 64) (v := .pt 101 29) rfl (og rfl (of_eff (s_field_pt rfl Tryd.underlying64 rfl ti56 rfl rfl rfl) rfl)) ?_
          refine rg_put (d := 65) (v := .d (.ag (eRs s.res))) rfl (og rfl (of_eff (s_load_pts rfl Tryd.underlying56 rfl ti56 rfl rfl rfl rfl) rfl)) ?_
          refine rg_put (d := 66) (v := .pt 106 0) rfl (og rfl (of_eff (s_field_pt rfl Tryd.underlying87 rfl ti9 rfl rfl rfl) rfl)) ?_
          refine rg_put (d := 67) (v := .d (.fl (.string ((ix s.res.pass j).id)))) rfl (og rfl (op_load_pt rfl Tryd.underlying9 rfl rfl rfl rfl rfl)) ?_
          refine rg_put (d := 68) (v := .d (.sl 3 (List.map eFc ((fct s.res ((ix s.res.pass j).id)))))) rfl (og rfl (op_call rfl Tryd.func23 nm23 rfl (.cons rfl (.d _) (.cons rfl (.d _) .nil)) (fct23 s.res ((ix s.res.pass j).id) hT.1 hT.2.1 hT.2.2.1 hT.2.2.2.2.2.1) rfl)) ?_
          refine rg_nam (d := 69) (v := .ow 107) (m := 107) (nw := [(107, .tr 81 3 (tD eFc (((([(Fc.mk ⟨#[100, 101, 116, 101, 99, 116, 105, 111, 110]⟩ (nmS x) 0)] ++ (cat (gR x) s.res.rej s.res.rej.length)) ++ (cat (gPa s.res x) s.res.pass j)) ++ (fct s.res ((ix s.res.pass j).id)))))), (103, .no)]) rfl (og rfl (of_eff (s_append_td 107 rfl Tryd.underlying69 ti81 rfl rfl rfl rfl rfl (.d _) (by simp only [List.length_append, List.length_cons, List.length_nil]; omega) rfl) rfl)) rfl ?_
          refine rg_put (d := 7) (v := .ow 107) rfl (og rfl (op_assign rfl rfl rfl)) ?_
          refine rg_done rfl ?_
          show A _ _ _ _ _ _ _
          refine a_region ?_
          refine rg_put (d := 70) (v := .d (.fl (.int .i64 (((j : Int) + 1))))) rfl (og rfl (op_bin rfl rfl rfl (fun x y w => b_add64 _ _ _ x y w (by omega)) rfl)) ?_
          refine rg_put (d := 55) (v := .d (.fl (.int .i64 (((j : Int) + 1))))) rfl (og rfl (op_move rfl rfl rfl)) ?_
          refine rg_done rfl ?_
          have hg : gPa s.res x (ix s.res.pass j) = fct s.res (ix s.res.pass j).id := by unfold gPa; rw [if_pos h13]
          show ∃ i, _ ∧ _ ∧ Imp _ _ _ _ _
          refine ⟨j + 1, (by omega), by omega, imp_ren (fun m => bif Nat.beq m 103 then 107 else m) rfl ⟨rfl, rfl, rfl, rfl, rfl, rfl, rfl, rfl, rfl, rfl, rfl, rfl, rfl, rfl, (by first | rfl | exact ci (by omega) | exact ci (by simp) | exact cd (by simp) | simp), rfl, trivial⟩ ⟨rfl, rfl, (congrArg (fun z => Ob.tr 81 3 (tD eFc z)) (cat_eq hg (by first | rfl | simp only [List.append_nil] | simp only [List.append_assoc, List.cons_append, List.nil_append]))), trivial⟩⟩
        · skip
          refine a_skip ?_
          show A _ _ _ _ _ _ _
          refine a_region ?_
          refine rg_put (d := 70) (v := .d (.fl (.int .i64 (((j : Int) + 1))))) rfl (og rfl (op_bin rfl rfl rfl (fun x y w => b_add64 _ _ _ x y w (by omega)) rfl)) ?_
          refine rg_put (d := 55) (v := .d (.fl (.int .i64 (((j : Int) + 1))))) rfl (og rfl (op_move rfl rfl rfl)) ?_
          refine rg_done rfl ?_
          have hg : gPa s.res x (ix s.res.pass j) = [] := by unfold gPa; rw [if_neg (by rw [h13]; decide)]
          show ∃ i, _ ∧ _ ∧ Imp _ _ _ _ _
          refine ⟨j + 1, (by omega), by omega, imp_forget rfl ⟨rfl, rfl, rfl, rfl, rfl, rfl, rfl, rfl, rfl, rfl, rfl, rfl, rfl, rfl, (by first | rfl | exact ci (by omega) | exact ci (by simp) | exact cd (by simp) | simp), rfl, trivial⟩ ⟨rfl, rfl, (congrArg (fun z => Ob.tr 81 3 (tD eFc z)) (cat_eq hg (by first | rfl | simp only [List.append_nil] | simp only [List.append_assoc, List.cons_append, List.nil_append]))), trivial⟩⟩
      · skip
        have h14 := f_dec h11
        refine a_exit ?_
        show A _ _ _ _ _ _ _
        refine a_rseq ?_
        refine rg_put (d := 71) (v := .ow 103) rfl (og rfl (op_move rfl rfl rfl)) ?_
        refine rg_put (d := 4) (v := .ow 103) rfl (og rfl (op_assign rfl rfl rfl)) ?_
        refine rg_put (d := 5) (v := .d (.fl (.int .i64 0))) rfl (og rfl (op_assign rfl rfl rfl)) ?_
        refine rg_done rfl ?_
        refine a_imp (imp_leakT 4 103 rfl rfl) ?_
        refine a_ret ?_
        show ∃ ds, ResL _ _ _ ds ∧ RV.of ds = _
        refine ⟨[.sl 3 (List.map eFc ((([(Fc.mk ⟨#[100, 101, 116, 101, 99, 116, 105, 111, 110]⟩ (nmS x) 0)] ++ (cat (gR x) s.res.rej s.res.rej.length)) ++ (cat (gPa s.res x) s.res.pass j)))), .fl (.int .i64 0)], (.cons (.tmp rfl (.d _)) (.cons (.tmp rfl (.d _)) .nil)), ?_⟩
        have hjl : j = s.res.pass.length := by omega
        subst hjl
        rw [dtc_yes h3]; rfl
set_option maxHeartbeats 4000000 in
set_option maxRecDepth 100000 in
theorem dtc10 (s : Sa) (x : So) (hs : okSt s) (hx0 : okS x) : Ctr Tryd.prog 10 [.ag (eSa s), .ag (eSo x)] (.tu [.sl 3 (List.map eFc (dtc s x).1), .fl (.int .i64 (dtc s x).2)]) := by
  obtain ⟨hs1, hs2, hT, hs4, hs5, hs6⟩ := hs
  refine ctr (n := 90) (rs := #[.tmp 4, .tmp 5]) (L := [(0, .d (.ag (eSa s))), (1, .d (.ag (eSo x)))]) Tryd.func10 rfl rfl rfl rfl rfl (fun w0 U0 => ?_)
  refine a_rseq ?_
  refine rg_nam (d := 2) (v := .pt 101 0) (m := 101) (nw := [(101, .bx 64 (eSa s))]) rfl (og rfl (of_eff (op_box 101 rfl rfl rfl rfl) rfl)) rfl ?_
  refine rg_nam (d := 3) (v := .pt 102 0) (m := 102) (nw := [(102, .bx 66 (eSo x))]) rfl (og rfl (of_eff (op_box 102 rfl rfl rfl rfl) rfl)) rfl ?_
  refine rg_put (d := 4) (v := .d (.fl (.slice none 0 0))) rfl (og rfl (op_assign rfl rfl rfl)) ?_
  refine rg_put (d := 5) (v := .d (.fl (.int .i64 0))) rfl (og rfl (op_assign rfl rfl rfl)) ?_
  refine rg_done rfl ?_
  refine a_seq ?_
  refine a_rseq ?_
  refine rg_put (d := 12) (v := .d (.ag (eSa s))) rfl (og rfl (of_eff (s_load_pts rfl Tryd.underlying64 rfl ti64 rfl rfl rfl rfl) rfl)) ?_
  refine rg_put (d := 13) (v := .d (.ag (eSo x))) rfl (og rfl (of_eff (s_load_pts rfl Tryd.underlying66 rfl ti66 rfl rfl rfl rfl) rfl)) ?_
  refine rg_put (d := 14) (v := .d (.fl (.bool (knw s x)))) rfl (og rfl (op_call rfl Tryd.func24 nm24 rfl (.cons rfl (.d _) (.cons rfl (.d _) .nil)) (knw24 s x hs1 hs2 hT.2.2.2.1) rfl)) ?_
  refine rg_put (d := 15) (v := .d (.fl (.bool ((!(knw s x)))))) rfl (og rfl (op_un rfl rfl (u_not _) rfl)) ?_
  refine rg_done rfl ?_
  refine a_cond rfl (fun h1 => ?_) (fun h1 => ?_)
  · skip
    have h2 := t_not h1
    refine a_rseq ?_
    refine rg_put (d := 4) (v := .d (.fl (.slice none 0 0))) rfl (og rfl (op_assign rfl rfl rfl)) ?_
    refine rg_put (d := 5) (v := .d (.fl (.int .i64 10))) rfl (og rfl (op_assign rfl rfl rfl)) ?_
    refine rg_done rfl ?_
    refine a_ret ?_
    show ∃ ds, ResL _ _ _ ds ∧ RV.of ds = _
    refine ⟨[.sl 3 (List.map eFc []), .fl (.int .i64 10)], (.cons (.tmp rfl (.cv (Cv.nil _))) (.cons (.tmp rfl (.d _)) .nil)), ?_⟩
    rw [dtc_no h2]; rfl
  · skip
    have h3 := f_not h1
    refine a_skip ?_
    show A _ _ _ _ _ _ _
    refine a_rseq ?_
    refine rg_put (d := 16) (v := .d (.ag (eSo x))) rfl (og rfl (of_eff (s_load_pts rfl Tryd.underlying66 rfl ti66 rfl rfl rfl rfl) rfl)) ?_
    refine rg_put (d := 17) (v := .d (.fl (.string (nmS x)))) rfl (og rfl (op_call rfl Tryd.func25 nm25 rfl (.cons rfl (.d _) .nil) (name25 x hx0) rfl)) ?_
    refine rg_put (d := 18) (v := .d (.ag (eFc ((Fc.mk (⟨#[100, 101, 116, 101, 99, 116, 105, 111, 110]⟩) (nmS x) 0))))) rfl (og rfl (of_eff (op_build rfl Tryd.underlying81 ti81 rfl (by kernel_rfl) (by kernel_rfl) (pl := #[(0, 1), (1, 1), (2, 1)]) (by kernel_rfl) (.cons rfl rfl (.d _) rfl rfl rfl (.cons rfl rfl (.d _) rfl rfl rfl .nil)) rfl) rfl)) ?_
    refine rg_nam (d := 19) (v := .ow 103) (m := 103) (nw := [(103, .tr 81 3 (tD eFc ([(Fc.mk (⟨#[100, 101, 116, 101, 99, 116, 105, 111, 110]⟩) (nmS x) 0)])))]) rfl (og rfl (of_eff (of_eff (op_sliceB 103 rfl Tryd.underlying69 ti81 rfl rfl rfl (by kernel_rfl) (xs := [.ag (eFc ((Fc.mk (⟨#[100, 101, 116, 101, 99, 116, 105, 111, 110]⟩) (nmS x) 0)))]) rfl rfl (.cons rfl rfl (.d _) rfl rfl rfl .nil) rfl) rfl) rfl)) rfl ?_
    refine rg_put (d := 6) (v := .ow 103) rfl (og rfl (op_assign rfl rfl rfl)) ?_
    refine rg_done rfl ?_
    refine a_seq ?_
    refine a_rseq ?_
    refine rg_put (d := 7) (v := .d (.fl (.int .i64 0))) rfl (og rfl (op_assign rfl rfl rfl)) ?_
    refine rg_done rfl ?_
    refine a_block ?_
    refine a_loop (ι := Nat) (fun k => SS [(0, .d (.ag (eSa s))), (1, .d (.ag (eSo x))), (2, .pt 101 0), (3, .pt 102 0), (4, .d (.fl (.slice none 0 0))), (5, .d (.fl (.int .i64 0))), (15, .d (.fl (.bool ((!(knw s x)))))), (7, .d (.fl (.int .i64 (k : Int)))), (6, .ow 103)] [(101, .bx 64 (eSa s)), (102, .bx 66 (eSo x)), (103, .tr 81 3 (tD eFc (([(Fc.mk ⟨#[100, 101, 116, 101, 99, 116, 105, 111, 110]⟩ (nmS x) 0)] ++ (cat (gR x) s.res.rej k)))))]) (fun k => k ≤ s.res.rej.length) (fun k => s.res.rej.length - k) 0 (by omega) (imp_forget rfl ⟨rfl, rfl, rfl, rfl, rfl, rfl, rfl, (by first | rfl | exact ci (by omega) | exact ci (by simp) | exact cd (by simp) | simp), (by first | rfl | exact ci (by omega) | exact ci (by simp) | exact cd (by simp) | simp), trivial⟩ ⟨rfl, rfl, rfl, trivial⟩) (fun k hok => ?_)
    have hk := hok
    have hc1 := cat_len (g := gR x) (l := s.res.rej) (c := 1) (fun e _ => gR_len x e) k hk
    have hrl := hT.2.2.2.1
    refine a_seq ?_
    refine a_rseq ?_
    refine rg_put (d := 20) (v := .d (.fl (.int .i64 (k : Int)))) rfl (og rfl (op_move rfl rfl rfl)) ?_
    refine rg_put (d := 21) (v := .pt 101 29) rfl (og rfl (of_eff (s_field_pt rfl Tryd.underlying64 rfl ti56 rfl rfl rfl) rfl)) ?_
    refine rg_put (d := 22) (v := .pt 101 30) rfl (og rfl (of_eff (s_field_pt rfl Tryd.underlying56 rfl ti48 rfl rfl rfl) rfl)) ?_
    refine rg_put (d := 23) (v := .d (.sl 8 (List.map eRj s.res.rej))) rfl (og rfl (op_load_pt rfl Tryd.underlying48 rfl rfl rfl rfl rfl)) ?_
    refine rg_put (d := 24) (v := .d (.fl (.int .i64 (s.res.rej.length : Int)))) rfl (og rfl (s_len rfl Tryd.underlying48 rfl rfl)) ?_
    refine rg_put (d := 25) (v := .d (.fl (.bool ((decide ((k : Int) < (s.res.rej.length : Int))))))) rfl (og rfl (op_bin rfl rfl rfl (b_lss _ _ _ _) rfl)) ?_
    refine rg_done rfl ?_
    refine a_cond rfl (fun h4 => ?_) (fun h4 => ?_)
    · skip
      have h5 := t_dec h4
      refine a_skip ?_
      show A _ _ _ _ _ _ _
      refine a_seq ?_
      refine a_block ?_
      refine a_dseq (by kernel_rfl) ?_
      refine dr_put (d := 28) (v := .pt 101 29) rfl (og rfl (of_eff (s_field_pt rfl Tryd.underlying64 rfl ti56 rfl rfl rfl) rfl)) ?_
      refine dr_put (d := 29) (v := .pt 101 30) rfl (og rfl (of_eff (s_field_pt rfl Tryd.underlying56 rfl ti48 rfl rfl rfl) rfl)) ?_
      refine dr_put (d := 30) (v := .d (.sl 8 (List.map eRj s.res.rej))) rfl (og rfl (op_load_pt rfl Tryd.underlying48 rfl rfl rfl rfl rfl)) ?_
      refine dr_put (d := 31) (v := .d (.fl (.int .i64 (k : Int)))) rfl (og rfl (op_move rfl rfl rfl)) ?_
      refine dr_put (d := 32) (v := .el ((eRj (ix s.res.rej k)))) rfl (og rfl (s_index rfl Tryd.underlying48 ti109 rfl rfl (by omega) (row_at (by omega)) rfl)) ?_
      refine dr_put (d := 33) (v := .el ((List.drop 0 ((eRj (ix s.res.rej k)))))) rfl (og rfl (of_eff (s_field_el rfl Tryd.underlying109 rfl ti104 rfl rfl rfl) rfl)) ?_
      refine dr_put (d := 34) (v := .d (.ag (eDe ((ix s.res.rej k).d)))) rfl (og rfl (of_eff (s_load_els rfl Tryd.underlying104 rfl ti104 rfl rfl rfl) rfl)) ?_
      refine dr_put (d := 35) (v := .d (.ag (eSo x))) rfl (og rfl (of_eff (s_load_pts rfl Tryd.underlying66 rfl ti66 rfl rfl rfl rfl) rfl)) ?_
      refine dr_put (d := 36) (v := .d (.fl (.bool ((isD ((ix s.res.rej k).d) x))))) rfl (og rfl (op_call rfl Tryd.func26 nm26 rfl (.cons rfl (.d _) (.cons rfl (.d _) .nil)) (isD26 ((ix s.res.rej k).d) x) rfl)) ?_
      refine dr_done rfl (by kernel_rfl) (by kernel_rfl) ?_
      refine a_cond rfl (fun h6 => ?_) (fun h6 => ?_)
      · skip
        refine a_draw (by kernel_rfl) ?_
        refine dr_put (d := 37) (v := .ow 103) rfl (og rfl (op_move rfl rfl rfl)) ?_
        refine dr_put (d := 38) (v := .d (.ag (eSo x))) rfl (og rfl (of_eff (s_load_pts rfl Tryd.underlying66 rfl ti66 rfl rfl rfl rfl) rfl)) ?_
        refine dr_put (d := 39) (v := .d (.fl (.string (nmS x)))) rfl (og rfl (op_call rfl Tryd.func25 nm25 rfl (.cons rfl (.d _) .nil) (name25 x hx0) rfl)) ?_
        refine dr_put (d := 40) (v := .pt 101 29) rfl (og rfl (of_eff (s_field_pt rfl Tryd.underlying64 rfl ti56 rfl rfl rfl) rfl)) ?_
        refine dr_put (d := 41) (v := .pt 101 30) rfl (og rfl (of_eff (s_field_pt rfl Tryd.underlying56 rfl ti48 rfl rfl rfl) rfl)) ?_
        refine dr_put (d := 42) (v := .d (.sl 8 (List.map eRj s.res.rej))) rfl (og rfl (op_load_pt rfl Tryd.underlying48 rfl rfl rfl rfl rfl)) ?_
        refine dr_put (d := 43) (v := .d (.fl (.int .i64 (k : Int)))) rfl (og rfl (op_move rfl rfl rfl)) ?_
        refine dr_put (d := 44) (v := .el ((eRj (ix s.res.rej k)))) rfl (og rfl (s_index rfl Tryd.underlying48 ti109 rfl rfl (by omega) (row_at (by omega)) rfl)) ?_
        refine dr_put (d := 45) (v := .el ((List.drop 7 ((eRj (ix s.res.rej k)))))) rfl (og rfl (of_eff (s_field_el rfl Tryd.underlying109 rfl ti3 rfl rfl rfl) rfl)) ?_
        refine dr_put (d := 46) (v := .d (.fl (.int .i64 ((ix s.res.rej k).why)))) rfl (og rfl (op_load_el rfl Tryd.underlying3 rfl rfl rfl rfl)) ?_
        refine dr_put (d := 47) (v := .d (.ag (eFc ((Fc.mk (⟨#[114, 101, 106, 101, 99, 116]⟩) (nmS x) ((ix s.res.rej k).why)))))) rfl (og rfl (of_eff (op_build rfl Tryd.underlying81 ti81 rfl (by kernel_rfl) (by kernel_rfl) (pl := #[(0, 1), (1, 1), (2, 1)]) (by kernel_rfl) (.cons rfl rfl (.d _) rfl rfl rfl (.cons rfl rfl (.d _) rfl rfl rfl (.cons rfl rfl (.d _) rfl rfl rfl .nil))) rfl) rfl)) ?_
        refine dr_put (d := 48) (v := .d (.sl 3 (List.map eFc ([(Fc.mk (⟨#[114, 101, 106, 101, 99, 116]⟩) (nmS x) ((ix s.res.rej k).why))])))) rfl (og rfl (of_eff (op_slices rfl Tryd.underlying69 ti81 rfl rfl rfl (by kernel_rfl) (xs := [.ag (eFc ((Fc.mk (⟨#[114, 101, 106, 101, 99, 116]⟩) (nmS x) ((ix s.res.rej k).why))))]) rfl rfl (.cons rfl rfl (.d _) rfl rfl rfl .nil) rfl) rfl)) ?_
        refine dr_nam (d := 49) (v := .ow 104) (m := 104) (nw := [(104, .tr 81 3 (tD eFc ((([(Fc.mk ⟨#[100, 101, 116, 101, 99, 116, 105, 111, 110]⟩ (nmS x) 0)] ++ (cat (gR x) s.res.rej k)) ++ [(Fc.mk (⟨#[114, 101, 106, 101, 99, 116]⟩) (nmS x) ((ix s.res.rej k).why))])))), (103, .no)]) rfl (og rfl (of_eff (s_append_td 104 rfl Tryd.underlying69 ti81 rfl rfl rfl rfl rfl (.d _) (by simp only [List.length_append, List.length_cons, List.length_nil]; omega) rfl) rfl)) ?_
        refine dr_put (d := 6) (v := .ow 104) rfl (og rfl (op_assign rfl rfl rfl)) ?_
        refine dr_done rfl (by kernel_rfl) (by kernel_rfl) ?_
        show A _ _ _ _ _ _ _
        refine a_region ?_
        refine rg_put (d := 26) (v := .d (.fl (.int .i64 (k : Int)))) rfl (og rfl (op_move rfl rfl rfl)) ?_
        refine rg_put (d := 27) (v := .d (.fl (.int .i64 (((k : Int) + 1))))) rfl (og rfl (op_bin rfl rfl rfl (fun x y w => b_add64 _ _ _ x y w (by omega)) rfl)) ?_
        refine rg_put (d := 7) (v := .d (.fl (.int .i64 (((k : Int) + 1))))) rfl (og rfl (op_assign rfl rfl rfl)) ?_
        refine rg_done rfl ?_
        have hg : gR x (ix s.res.rej k) = [Fc.mk ⟨#[114, 101, 106, 101, 99, 116]⟩ (nmS x) (ix s.res.rej k).why] := by unfold gR; rw [if_pos h6]
        show ∃ i, _ ∧ _ ∧ Imp _ _ _ _ _
        refine ⟨k + 1, (by omega), by omega, imp_ren (fun m => bif Nat.beq m 103 then 104 else m) rfl ⟨rfl, rfl, rfl, rfl, rfl, rfl, rfl, (by first | rfl | exact ci (by omega) | exact ci (by simp) | exact cd (by simp) | simp), rfl, trivial⟩ ⟨rfl, rfl, (congrArg (fun z => Ob.tr 81 3 (tD eFc z)) (cat_eq hg (by first | rfl | simp only [List.append_nil] | simp only [List.append_assoc, List.cons_append, List.nil_append]))), trivial⟩⟩
      · skip
        refine a_skip ?_
        show A _ _ _ _ _ _ _
        refine a_region ?_
        refine rg_put (d := 26) (v := .d (.fl (.int .i64 (k : Int)))) rfl (og rfl (op_move rfl rfl rfl)) ?_
        refine rg_put (d := 27) (v := .d (.fl (.int .i64 (((k : Int) + 1))))) rfl (og rfl (op_bin rfl rfl rfl (fun x y w => b_add64 _ _ _ x y w (by omega)) rfl)) ?_
        refine rg_put (d := 7) (v := .d (.fl (.int .i64 (((k : Int) + 1))))) rfl (og rfl (op_assign rfl rfl rfl)) ?_
        refine rg_done rfl ?_
        have hg : gR x (ix s.res.rej k) = [] := by unfold gR; rw [if_neg (by rw [h6]; decide)]
        show ∃ i, _ ∧ _ ∧ Imp _ _ _ _ _
        refine ⟨k + 1, (by omega), by omega, imp_forget rfl ⟨rfl, rfl, rfl, rfl, rfl, rfl, rfl, (by first | rfl | exact ci (by omega) | exact ci (by simp) | exact cd (by simp) | simp), rfl, trivial⟩ ⟨rfl, rfl, (congrArg (fun z => Ob.tr 81 3 (tD eFc z)) (cat_eq hg (by first | rfl | simp only [List.append_nil] | simp only [List.append_assoc, List.cons_append, List.nil_append]))), trivial⟩⟩
    · skip
      have h7 := f_dec h4
      refine a_exit ?_
      show A _ _ _ _ _ _ _
      refine a_seq ?_
      refine a_rseq ?_
      have hkl : k = s.res.rej.length := by omega
      rw [show (cat (gR x) s.res.rej k) = (cat (gR x) s.res.rej s.res.rej.length) from by rw [hkl]]
      have hrl := hT.2.2.2.1
      have hc1 := cat_len (g := gR x) (l := s.res.rej) (c := 1) (fun e _ => gR_len x e) s.res.rej.length (Nat.le_refl _)
      refine rg_put (d := 8) (v := .d (.fl (.int .i64 0))) rfl (og rfl (op_assign rfl rfl rfl)) ?_
      refine rg_done rfl ?_
      refine a_block ?_
      refine a_loop (ι := Nat) (fun j => SS [(0, .d (.ag (eSa s))), (1, .d (.ag (eSo x))), (2, .pt 101 0), (3, .pt 102 0), (4, .d (.fl (.slice none 0 0))), (5, .d (.fl (.int .i64 0))), (7, .d (.fl (.int .i64 (k : Int)))), (15, .d (.fl (.bool ((!(knw s x)))))), (25, .d (.fl (.bool ((decide ((k : Int) < (s.res.rej.length : Int))))))), (8, .d (.fl (.int .i64 (j : Int)))), (6, .ow 103)] [(101, .bx 64 (eSa s)), (102, .bx 66 (eSo x)), (103, .tr 81 3 (tD eFc ((([(Fc.mk ⟨#[100, 101, 116, 101, 99, 116, 105, 111, 110]⟩ (nmS x) 0)] ++ (cat (gR x) s.res.rej s.res.rej.length)) ++ (cat (gPa s.res x) s.res.pass j)))))]) (fun j => j ≤ s.res.pass.length) (fun j => s.res.pass.length - j) 0 (by omega) (imp_forget rfl ⟨rfl, rfl, rfl, rfl, rfl, rfl, rfl, rfl, rfl, (by first | rfl | exact ci (by omega) | exact ci (by simp) | exact cd (by simp) | simp), (by first | rfl | exact ci (by omega) | exact ci (by simp) | exact cd (by simp) | simp), trivial⟩ ⟨rfl, rfl, (congrArg (fun z => Ob.tr 81 3 (tD eFc z)) (List.append_nil _).symm), trivial⟩) (fun j hok => ?_)
      have hj := hok
      have hc2 := cat_len (g := gPa s.res x) (l := s.res.pass) (c := 4000) (fun e _ => gPa_len x hT e) j hj
      have hf := fct_len s.res (ix s.res.pass j).id hT.1 hT.2.1
      have hpl := hT.2.2.2.2.2.2.2.2.1
      refine a_seq ?_
      refine a_rseq ?_
      refine rg_put (d := 50) (v := .d (.fl (.int .i64 (j : Int)))) rfl (og rfl (op_move rfl rfl rfl)) ?_
      refine rg_put (d := 51) (v := .pt 101 29) rfl (og rfl (of_eff (s_field_pt rfl Tryd.underlying64 rfl ti56 rfl rfl rfl) rfl)) ?_
      refine rg_put (d := 52) (v := .pt 101 29) rfl (og rfl (of_eff (s_field_pt rfl Tryd.underlying56 rfl ti50 rfl rfl rfl) rfl)) ?_
      refine rg_put (d := 53) (v := .d (.sl 8 (List.map ePg s.res.pass))) rfl (og rfl (op_load_pt rfl Tryd.underlying50 rfl rfl rfl rfl rfl)) ?_
      refine rg_put (d := 54) (v := .d (.fl (.int .i64 (s.res.pass.length : Int)))) rfl (og rfl (s_len rfl Tryd.underlying50 rfl rfl)) ?_
      refine rg_put (d := 55) (v := .d (.fl (.bool ((decide ((j : Int) < (s.res.pass.length : Int))))))) rfl (og rfl (op_bin rfl rfl rfl (b_lss _ _ _ _) rfl)) ?_
      refine rg_done rfl ?_
      refine a_cond rfl (fun h8 => ?_) (fun h8 => ?_)
      · skip
        have h9 := t_dec h8
        refine a_skip ?_
        show A _ _ _ _ _ _ _
        refine a_seq ?_
        refine a_block ?_
        refine a_rseq ?_
        refine rg_put (d := 58) (v := .pt 101 29) rfl (og rfl (of_eff (s_field_pt rfl Tryd.underlying64 rfl ti56 rfl rfl rfl) rfl)) ?_
        refine rg_put (d := 59) (v := .pt 101 29) rfl (og rfl (of_eff (s_field_pt rfl Tryd.underlying56 rfl ti50 rfl rfl rfl) rfl)) ?_
        refine rg_put (d := 60) (v := .d (.sl 8 (List.map ePg s.res.pass))) rfl (og rfl (op_load_pt rfl Tryd.underlying50 rfl rfl rfl rfl rfl)) ?_
        refine rg_put (d := 61) (v := .d (.fl (.int .i64 (j : Int)))) rfl (og rfl (op_move rfl rfl rfl)) ?_
        refine rg_put (d := 62) (v := .el ((ePg (ix s.res.pass j)))) rfl (og rfl (s_index rfl Tryd.underlying50 ti87 rfl rfl (by omega) (row_at (by omega)) rfl)) ?_
        refine rg_put (d := 63) (v := .d (.ag (ePg (ix s.res.pass j)))) rfl (og rfl (of_eff (s_load_els rfl Tryd.underlying87 rfl ti87 rfl rfl rfl) rfl)) ?_
        refine rg_nam (d := 9) (v := .pt 105 0) (m := 105) (nw := [(105, .bx 87 ([.fl (.string (⟨#[]⟩)), .fl (.string (⟨#[]⟩)), .fl (.int .i64 0), .fl (.string (⟨#[]⟩)), .fl (.string (⟨#[]⟩)), .fl (.int .i64 0), .fl (.int .i64 0), .fl (.slice none 0 0)]))]) rfl (og rfl (of_eff (s_alloc 105 rfl ti87 (by kernel_rfl) rfl) rfl)) rfl ?_
        refine rg_sto (nw := [(105, .bx 87 ((ePg (ix s.res.pass j))))]) rfl (og rfl (of_eff (s_store rfl rfl ti87 rfl rfl rfl rfl rfl rfl) rfl)) ?_
        refine rg_done rfl ?_
        refine a_rseq ?_
        refine rg_put (d := 10) (v := .d (.fl (.bool false))) rfl (og rfl (op_assign rfl rfl rfl)) ?_
        refine rg_done rfl ?_
        refine a_seq ?_
        refine a_rseq ?_
        refine rg_put (d := 11) (v := .d (.fl (.int .i64 0))) rfl (og rfl (op_assign rfl rfl rfl)) ?_
        refine rg_done rfl ?_
        refine a_block ?_
        refine a_loop (ι := Nat) (fun u => SS [(0, .d (.ag (eSa s))), (1, .d (.ag (eSo x))), (2, .pt 101 0), (3, .pt 102 0), (4, .d (.fl (.slice none 0 0))), (5, .d (.fl (.int .i64 0))), (6, .ow 103), (7, .d (.fl (.int .i64 (k : Int)))), (8, .d (.fl (.int .i64 (j : Int)))), (9, .pt 105 0), (15, .d (.fl (.bool ((!(knw s x)))))), (25, .d (.fl (.bool ((decide ((k : Int) < (s.res.rej.length : Int))))))), (55, .d (.fl (.bool ((decide ((j : Int) < (s.res.pass.length : Int))))))), (11, .d (.fl (.int .i64 (u : Int)))), (10, .d (.fl (.bool ((anyK (fun q => soE q x) (ix s.res.pass j).srcs u)))))] [(101, .bx 64 (eSa s)), (102, .bx 66 (eSo x)), (103, .tr 81 3 (tD eFc ((([(Fc.mk ⟨#[100, 101, 116, 101, 99, 116, 105, 111, 110]⟩ (nmS x) 0)] ++ (cat (gR x) s.res.rej s.res.rej.length)) ++ (cat (gPa s.res x) s.res.pass j))))), (105, .bx 87 ((ePg (ix s.res.pass j))))]) (fun u => u ≤ (ix s.res.pass j).srcs.length) (fun u => (ix s.res.pass j).srcs.length - u) 0 (by omega) (imp_forget rfl ⟨rfl, rfl, rfl, rfl, rfl, rfl, rfl, rfl, rfl, rfl, rfl, rfl, rfl, (by first | rfl | exact ci (by omega) | exact ci (by simp) | exact cd (by simp) | simp), rfl, trivial⟩ ⟨rfl, rfl, rfl, rfl, trivial⟩) (fun u hok => ?_)
        have hu := hok
        have hsl := (hT.2.2.2.2.2.2.2.2.2 j (by omega)).1
        refine a_seq ?_
        refine a_rseq ?_
        refine rg_put (d := 64) (v := .d (.fl (.int .i64 (u : Int)))) rfl (og rfl (op_move rfl rfl rfl)) ?_
        refine rg_put (d := 65) (v := .pt 105 7) rfl (og rfl (of_eff (s_field_pt rfl Tryd.underlying87 rfl ti85 rfl rfl rfl) rfl)) ?_
        refine rg_put (d := 66) (v := .d (.sl 2 (List.map eSo ((ix s.res.pass j).srcs)))) rfl (og rfl (op_load_pt rfl Tryd.underlying85 rfl rfl rfl rfl rfl)) ?_
        refine rg_put (d := 67) (v := .d (.fl (.int .i64 ((((ix s.res.pass j).srcs).length : Int))))) rfl (og rfl (s_len rfl Tryd.underlying85 rfl rfl)) ?_
        refine rg_put (d := 68) (v := .d (.fl (.bool ((decide ((u : Int) < (((ix s.res.pass j).srcs).length : Int))))))) rfl (og rfl (op_bin rfl rfl rfl (b_lss _ _ _ _) rfl)) ?_
        refine rg_done rfl ?_
        refine a_cond rfl (fun h10 => ?_) (fun h10 => ?_)
        · skip
          have h11 := t_dec h10
          refine a_skip ?_
          show A _ _ _ _ _ _ _
          refine a_seq ?_
          refine a_block ?_
          refine a_draw (by kernel_rfl) ?_
          refine dr_put (d := 71) (v := .d (.fl (.bool ((anyK (fun q => soE q x) (ix s.res.pass j).srcs u))))) rfl (og rfl (op_move rfl rfl rfl)) ?_
          refine dr_put (d := 72) (v := .d (.fl (.bool ((anyK (fun q => soE q x) (ix s.res.pass j).srcs u))))) rfl (og rfl (op_move rfl rfl rfl)) ?_
          rcases fot ((anyK (fun q => soE q x) (ix s.res.pass j).srcs u)) with h12 | h12
          · skip
            refine dr_put (d := 73) (v := .pt 105 7) rfl (oy rfl rfl rfl h12 (of_eff (s_field_pt rfl Tryd.underlying87 rfl ti85 rfl rfl rfl) rfl)) ?_
            refine dr_put (d := 74) (v := .d (.sl 2 (List.map eSo ((ix s.res.pass j).srcs)))) rfl (oy rfl rfl rfl h12 (op_load_pt rfl Tryd.underlying85 rfl rfl rfl rfl rfl)) ?_
            refine dr_put (d := 75) (v := .d (.fl (.int .i64 (u : Int)))) rfl (oy rfl rfl rfl h12 (op_move rfl rfl rfl)) ?_
            refine dr_put (d := 76) (v := .el ((eSo ((ix ((ix s.res.pass j).srcs) u))))) rfl (oy rfl rfl rfl h12 (s_index rfl Tryd.underlying85 ti66 rfl rfl (by omega) (row_at (by omega)) rfl)) ?_
            refine dr_put (d := 77) (v := .d (.ag (eSo (((ix ((ix s.res.pass j).srcs) u)))))) rfl (oy rfl rfl rfl h12 (of_eff (s_load_els rfl Tryd.underlying66 rfl ti66 rfl rfl rfl) rfl)) ?_
            refine dr_put (d := 78) (v := .d (.ag (eSo x))) rfl (oy rfl rfl rfl h12 (of_eff (s_load_pts rfl Tryd.underlying66 rfl ti66 rfl rfl rfl rfl) rfl)) ?_
            refine dr_put (d := 79) (v := .d (.fl (.bool ((soE (((ix ((ix s.res.pass j).srcs) u))) x))))) rfl (oy rfl rfl rfl h12 (op_eqS [.string ((((ix ((ix s.res.pass j).srcs) u))).dev), .int .i64 ((((ix ((ix s.res.pass j).srcs) u))).seq)] [.string x.dev, .int .i64 x.seq] rfl rfl rfl (b := (soE (((ix ((ix s.res.pass j).srcs) u))) x)) (fun ww => eqlG66 (((ix ((ix s.res.pass j).srcs) u))) x _ _ ww) rfl)) ?_
            refine dr_put (d := 80) (v := .d (.fl (.bool ((soE (((ix ((ix s.res.pass j).srcs) u))) x))))) rfl (og rfl (op_pick rfl rfl (by rw [h12]; rfl) rfl)) ?_
            refine dr_put (d := 10) (v := .d (.fl (.bool ((soE (((ix ((ix s.res.pass j).srcs) u))) x))))) rfl (og rfl (op_assign rfl rfl rfl)) ?_
            refine dr_done rfl (by kernel_rfl) (by kernel_rfl) ?_
            show A _ _ _ _ _ _ _
            refine a_region ?_
            refine rg_put (d := 69) (v := .d (.fl (.int .i64 (u : Int)))) rfl (og rfl (op_move rfl rfl rfl)) ?_
            refine rg_put (d := 70) (v := .d (.fl (.int .i64 (((u : Int) + 1))))) rfl (og rfl (op_bin rfl rfl rfl (fun x y w => b_add64 _ _ _ x y w (by omega)) rfl)) ?_
            refine rg_put (d := 11) (v := .d (.fl (.int .i64 (((u : Int) + 1))))) rfl (og rfl (op_assign rfl rfl rfl)) ?_
            refine rg_done rfl ?_
            show ∃ i, _ ∧ _ ∧ Imp _ _ _ _ _
            refine ⟨u + 1, (by omega), by omega, imp_forget rfl ⟨rfl, rfl, rfl, rfl, rfl, rfl, rfl, rfl, rfl, rfl, rfl, rfl, rfl, (by first | rfl | exact ci (by omega) | exact ci (by simp) | exact cd (by simp) | simp), (congrArg (fun b => AV.d (.fl (.bool b))) (anyK_f (p := fun q => soE q x) h12)), trivial⟩ ⟨rfl, rfl, rfl, rfl, trivial⟩⟩
          · skip
            refine dr_put (d := 73) (v := .d (.fl undef)) rfl (on rfl rfl rfl h12) ?_
            refine dr_put (d := 74) (v := .d (.fl undef)) rfl (on rfl rfl rfl h12) ?_
            refine dr_put (d := 75) (v := .d (.fl undef)) rfl (on rfl rfl rfl h12) ?_
            refine dr_put (d := 76) (v := .d (.fl undef)) rfl (on rfl rfl rfl h12) ?_
            refine dr_put (d := 77) (v := .d (.fl undef)) rfl (on rfl rfl rfl h12) ?_
            refine dr_put (d := 78) (v := .d (.fl undef)) rfl (on rfl rfl rfl h12) ?_
            refine dr_put (d := 79) (v := .d (.fl undef)) rfl (on rfl rfl rfl h12) ?_
            refine dr_put (d := 80) (v := .d (.fl (.bool true))) rfl (og rfl (op_pick rfl rfl (by rw [h12]; rfl) rfl)) ?_
            refine dr_put (d := 10) (v := .d (.fl (.bool true))) rfl (og rfl (op_assign rfl rfl rfl)) ?_
            refine dr_done rfl (by kernel_rfl) (by kernel_rfl) ?_
            show A _ _ _ _ _ _ _
            refine a_region ?_
            refine rg_put (d := 69) (v := .d (.fl (.int .i64 (u : Int)))) rfl (og rfl (op_move rfl rfl rfl)) ?_
            refine rg_put (d := 70) (v := .d (.fl (.int .i64 (((u : Int) + 1))))) rfl (og rfl (op_bin rfl rfl rfl (fun x y w => b_add64 _ _ _ x y w (by omega)) rfl)) ?_
            refine rg_put (d := 11) (v := .d (.fl (.int .i64 (((u : Int) + 1))))) rfl (og rfl (op_assign rfl rfl rfl)) ?_
            refine rg_done rfl ?_
            show ∃ i, _ ∧ _ ∧ Imp _ _ _ _ _
            refine ⟨u + 1, (by omega), by omega, imp_forget rfl ⟨rfl, rfl, rfl, rfl, rfl, rfl, rfl, rfl, rfl, rfl, rfl, rfl, rfl, (by first | rfl | exact ci (by omega) | exact ci (by simp) | exact cd (by simp) | simp), (congrArg (fun b => AV.d (.fl (.bool b))) (anyK_t (p := fun q => soE q x) h12)), trivial⟩ ⟨rfl, rfl, rfl, rfl, trivial⟩⟩
        · skip
          have h13 := f_dec h10
          refine a_exit ?_
          show A _ _ _ _ _ _ _
          refine a_rseq ?_
          refine rg_put (d := 81) (v := .d (.fl (.bool ((anyK (fun q => soE q x) (ix s.res.pass j).srcs u))))) rfl (og rfl (op_move rfl rfl rfl)) ?_
          refine rg_done rfl ?_
          refine a_cond rfl (fun h14 => ?_) (fun h14 => ?_)
          · skip
            refine a_region ?_
            refine rg_put (d := 82) (v := .ow 103) rfl (og rfl (op_move rfl rfl rfl)) ?_
            refine rg_put (d := 83) (v := .pt 101 29) rfl (og rfl (of_eff (s_field_pt rfl Tryd.underlying64 rfl ti56 rfl rfl rfl) rfl)) ?_
            refine rg_put (d := 84) (v := .d (.ag (eRs s.res))) rfl (og rfl (of_eff (s_load_pts rfl Tryd.underlying56 rfl ti56 rfl rfl rfl rfl) rfl)) ?_
            refine rg_put (d := 85) (v := .pt 105 0) rfl (og rfl (of_eff (s_field_pt rfl Tryd.underlying87 rfl ti9 rfl rfl rfl) rfl)) ?_
            refine rg_put (d := 86) (v := .d (.fl (.string ((ix s.res.pass j).id)))) rfl (og rfl (op_load_pt rfl Tryd.underlying9 rfl rfl rfl rfl rfl)) ?_
            refine rg_put (d := 87) (v := .d (.sl 3 (List.map eFc ((fct s.res ((ix s.res.pass j).id)))))) rfl (og rfl (op_call rfl Tryd.func27 nm27 rfl (.cons rfl (.d _) (.cons rfl (.d _) .nil)) (fct27 s.res ((ix s.res.pass j).id) hT.1 hT.2.1 hT.2.2.1 hT.2.2.2.2.2.1) rfl)) ?_
            refine rg_nam (d := 88) (v := .ow 106) (m := 106) (nw := [(106, .tr 81 3 (tD eFc (((([(Fc.mk ⟨#[100, 101, 116, 101, 99, 116, 105, 111, 110]⟩ (nmS x) 0)] ++ (cat (gR x) s.res.rej s.res.rej.length)) ++ (cat (gPa s.res x) s.res.pass j)) ++ (fct s.res ((ix s.res.pass j).id)))))), (103, .no)]) rfl (og rfl (of_eff (s_append_td 106 rfl Tryd.underlying69 ti81 rfl rfl rfl rfl rfl (.d _) (by simp only [List.length_append, List.length_cons, List.length_nil]; omega) rfl) rfl)) rfl ?_
            refine rg_put (d := 6) (v := .ow 106) rfl (og rfl (op_assign rfl rfl rfl)) ?_
            refine rg_done rfl ?_
            show A _ _ _ _ _ _ _
            refine a_region ?_
            refine rg_put (d := 56) (v := .d (.fl (.int .i64 (j : Int)))) rfl (og rfl (op_move rfl rfl rfl)) ?_
            refine rg_put (d := 57) (v := .d (.fl (.int .i64 (((j : Int) + 1))))) rfl (og rfl (op_bin rfl rfl rfl (fun x y w => b_add64 _ _ _ x y w (by omega)) rfl)) ?_
            refine rg_put (d := 8) (v := .d (.fl (.int .i64 (((j : Int) + 1))))) rfl (og rfl (op_assign rfl rfl rfl)) ?_
            refine rg_done rfl ?_
            have hul : u = (ix s.res.pass j).srcs.length := by omega
            have hh : hasP (ix s.res.pass j).srcs x = true := by unfold hasP; rw [← anyK_all, ← hul]; exact h14
            have hg : gPa s.res x (ix s.res.pass j) = fct s.res (ix s.res.pass j).id := by unfold gPa; rw [if_pos hh]
            show ∃ i, _ ∧ _ ∧ Imp _ _ _ _ _
            refine ⟨j + 1, (by omega), by omega, imp_ren (fun m => bif Nat.beq m 103 then 106 else m) rfl ⟨rfl, rfl, rfl, rfl, rfl, rfl, rfl, rfl, rfl, (by first | rfl | exact ci (by omega) | exact ci (by simp) | exact cd (by simp) | simp), rfl, trivial⟩ ⟨rfl, rfl, (congrArg (fun z => Ob.tr 81 3 (tD eFc z)) (cat_eq hg (by first | rfl | simp only [List.append_nil] | simp only [List.append_assoc, List.cons_append, List.nil_append]))), trivial⟩⟩
          · skip
            refine a_skip ?_
            show A _ _ _ _ _ _ _
            refine a_region ?_
            refine rg_put (d := 56) (v := .d (.fl (.int .i64 (j : Int)))) rfl (og rfl (op_move rfl rfl rfl)) ?_
            refine rg_put (d := 57) (v := .d (.fl (.int .i64 (((j : Int) + 1))))) rfl (og rfl (op_bin rfl rfl rfl (fun x y w => b_add64 _ _ _ x y w (by omega)) rfl)) ?_
            refine rg_put (d := 8) (v := .d (.fl (.int .i64 (((j : Int) + 1))))) rfl (og rfl (op_assign rfl rfl rfl)) ?_
            refine rg_done rfl ?_
            have hul : u = (ix s.res.pass j).srcs.length := by omega
            have hh : hasP (ix s.res.pass j).srcs x = false := by unfold hasP; rw [← anyK_all, ← hul]; exact h14
            have hg : gPa s.res x (ix s.res.pass j) = [] := by unfold gPa; rw [if_neg (by rw [hh]; decide)]
            show ∃ i, _ ∧ _ ∧ Imp _ _ _ _ _
            refine ⟨j + 1, (by omega), by omega, imp_forget rfl ⟨rfl, rfl, rfl, rfl, rfl, rfl, rfl, rfl, rfl, (by first | rfl | exact ci (by omega) | exact ci (by simp) | exact cd (by simp) | simp), rfl, trivial⟩ ⟨rfl, rfl, (congrArg (fun z => Ob.tr 81 3 (tD eFc z)) (cat_eq hg (by first | rfl | simp only [List.append_nil] | simp only [List.append_assoc, List.cons_append, List.nil_append]))), trivial⟩⟩
      · skip
        have h15 := f_dec h8
        refine a_exit ?_
        show A _ _ _ _ _ _ _
        refine a_rseq ?_
        refine rg_put (d := 89) (v := .ow 103) rfl (og rfl (op_move rfl rfl rfl)) ?_
        refine rg_put (d := 4) (v := .ow 103) rfl (og rfl (op_assign rfl rfl rfl)) ?_
        refine rg_put (d := 5) (v := .d (.fl (.int .i64 0))) rfl (og rfl (op_assign rfl rfl rfl)) ?_
        refine rg_done rfl ?_
        refine a_imp (imp_leakT 4 103 rfl rfl) ?_
        refine a_ret ?_
        show ∃ ds, ResL _ _ _ ds ∧ RV.of ds = _
        refine ⟨[.sl 3 (List.map eFc ((([(Fc.mk ⟨#[100, 101, 116, 101, 99, 116, 105, 111, 110]⟩ (nmS x) 0)] ++ (cat (gR x) s.res.rej s.res.rej.length)) ++ (cat (gPa s.res x) s.res.pass j)))), .fl (.int .i64 0)], (.cons (.tmp rfl (.d _)) (.cons (.tmp rfl (.d _)) .nil)), ?_⟩
        have hjl : j = s.res.pass.length := by omega
        subst hjl
        rw [dtc_yes h3]; rfl
set_option maxHeartbeats 4000000 in
set_option maxRecDepth 100000 in
theorem psg12 (s : Sa) (id : ByteArray) (hs : okSt s) : Ctr Tryd.prog 12 [.ag (eSa s), .fl (.string id)] (.tu [.sl 3 (List.map eFc (psg s id).1), .fl (.int .i64 (psg s id).2)]) := by
  obtain ⟨hs1, hs2, hT, hs4, hs5, hs6⟩ := hs
  refine ctr (n := 16) (rs := #[.tmp 4, .tmp 5]) (L := [(0, .d (.ag (eSa s))), (1, .d (.fl (.string id)))]) Tryd.func12 rfl rfl rfl rfl rfl (fun w0 U0 => ?_)
  refine a_rseq ?_
  refine rg_nam (d := 2) (v := .pt 101 0) (m := 101) (nw := [(101, .bx 64 (eSa s))]) rfl (og rfl (of_eff (op_box 101 rfl rfl rfl rfl) rfl)) rfl ?_
  refine rg_nam (d := 3) (v := .pt 102 0) (m := 102) (nw := [(102, .bx 9 [.fl (.string id)])]) rfl (og rfl (of_eff (op_box 102 rfl rfl rfl rfl) rfl)) rfl ?_
  refine rg_put (d := 4) (v := .d (.fl (.slice none 0 0))) rfl (og rfl (op_assign rfl rfl rfl)) ?_
  refine rg_put (d := 5) (v := .d (.fl (.int .i64 0))) rfl (og rfl (op_assign rfl rfl rfl)) ?_
  refine rg_done rfl ?_
  refine a_seq ?_
  refine a_rseq ?_
  refine rg_put (d := 6) (v := .pt 101 29) rfl (og rfl (of_eff (s_field_pt rfl Tryd.underlying64 rfl ti56 rfl rfl rfl) rfl)) ?_
  refine rg_put (d := 7) (v := .pt 101 29) rfl (og rfl (of_eff (s_field_pt rfl Tryd.underlying56 rfl ti50 rfl rfl rfl) rfl)) ?_
  refine rg_put (d := 8) (v := .d (.sl 8 (List.map ePg s.res.pass))) rfl (og rfl (op_load_pt rfl Tryd.underlying50 rfl rfl rfl rfl rfl)) ?_
  refine rg_imp (imp_freeze 3 102 rfl rfl) ?_
  refine rg_put (d := 9) (v := .d (.fn 29 [.el [.fl (.string id)]])) rfl (og rfl (op_mkfn rfl (.cons rfl .nil) rfl)) ?_
  refine rg_put (d := 10) (v := .d (.fl (.bool ((List.any s.res.pass (fun p => sEq p.id id)))))) rfl (og rfl (op_call rfl Tryd.func28 nm28 rfl (.cons rfl (.d _) (.cons rfl (.d _) .nil)) (con28 s.res.pass id (by have := hT.2.2.2.2.2.2.2.2.1; omega)) rfl)) ?_
  refine rg_put (d := 11) (v := .d (.fl (.bool ((!((List.any s.res.pass (fun p => sEq p.id id)))))))) rfl (og rfl (op_un rfl rfl (u_not _) rfl)) ?_
  refine rg_done rfl ?_
  refine a_cond rfl (fun h1 => ?_) (fun h1 => ?_)
  · skip
    have h2 := t_not h1
    refine a_rseq ?_
    refine rg_put (d := 4) (v := .d (.fl (.slice none 0 0))) rfl (og rfl (op_assign rfl rfl rfl)) ?_
    refine rg_put (d := 5) (v := .d (.fl (.int .i64 10))) rfl (og rfl (op_assign rfl rfl rfl)) ?_
    refine rg_done rfl ?_
    refine a_ret ?_
    show ∃ ds, ResL _ _ _ ds ∧ RV.of ds = _
    refine ⟨[.sl 3 (List.map eFc []), .fl (.int .i64 10)], (.cons (.tmp rfl (.cv (Cv.nil _))) (.cons (.tmp rfl (.d _)) .nil)), ?_⟩
    rw [psg_no h2]; rfl
  · skip
    have h3 := f_not h1
    refine a_skip ?_
    show A _ _ _ _ _ _ _
    refine a_rseq ?_
    refine rg_put (d := 12) (v := .pt 101 29) rfl (og rfl (of_eff (s_field_pt rfl Tryd.underlying64 rfl ti56 rfl rfl rfl) rfl)) ?_
    refine rg_put (d := 13) (v := .d (.ag (eRs s.res))) rfl (og rfl (of_eff (s_load_pts rfl Tryd.underlying56 rfl ti56 rfl rfl rfl rfl) rfl)) ?_
    refine rg_put (d := 14) (v := .d (.fl (.string id))) rfl (og rfl (op_load_el rfl Tryd.underlying9 rfl rfl rfl rfl)) ?_
    refine rg_put (d := 15) (v := .d (.sl 3 (List.map eFc (fct s.res id)))) rfl (og rfl (op_call rfl Tryd.func23 nm23 rfl (.cons rfl (.d _) (.cons rfl (.d _) .nil)) (fct23 s.res id hT.1 hT.2.1 hT.2.2.1 hT.2.2.2.2.2.1) rfl)) ?_
    refine rg_put (d := 4) (v := .d (.sl 3 (List.map eFc (fct s.res id)))) rfl (og rfl (op_assign rfl rfl rfl)) ?_
    refine rg_put (d := 5) (v := .d (.fl (.int .i64 0))) rfl (og rfl (op_assign rfl rfl rfl)) ?_
    refine rg_done rfl ?_
    refine a_ret ?_
    show ∃ ds, ResL _ _ _ ds ∧ RV.of ds = _
    refine ⟨[.sl 3 (List.map eFc (fct s.res id)), .fl (.int .i64 0)], (.cons (.tmp rfl (.d _)) (.cons (.tmp rfl (.d _)) .nil)), ?_⟩
    rw [psg_yes h3]; rfl
set_option maxHeartbeats 4000000 in
set_option maxRecDepth 100000 in
theorem psg13 (s : Sa) (id : ByteArray) (hs : okSt s) : Ctr Tryd.prog 13 [.ag (eSa s), .fl (.string id)] (.tu [.sl 3 (List.map eFc (psg s id).1), .fl (.int .i64 (psg s id).2)]) := by
  obtain ⟨hs1, hs2, hT, hs4, hs5, hs6⟩ := hs
  refine ctr (n := 16) (rs := #[.tmp 4, .tmp 5]) (L := [(0, .d (.ag (eSa s))), (1, .d (.fl (.string id)))]) Tryd.func13 rfl rfl rfl rfl rfl (fun w0 U0 => ?_)
  refine a_rseq ?_
  refine rg_nam (d := 2) (v := .pt 101 0) (m := 101) (nw := [(101, .bx 64 (eSa s))]) rfl (og rfl (of_eff (op_box 101 rfl rfl rfl rfl) rfl)) rfl ?_
  refine rg_put (d := 4) (v := .d (.fl (.slice none 0 0))) rfl (og rfl (op_assign rfl rfl rfl)) ?_
  refine rg_put (d := 5) (v := .d (.fl (.int .i64 0))) rfl (og rfl (op_assign rfl rfl rfl)) ?_
  refine rg_done rfl ?_
  refine a_seq ?_
  refine a_rseq ?_
  refine rg_put (d := 6) (v := .pt 101 29) rfl (og rfl (of_eff (s_field_pt rfl Tryd.underlying64 rfl ti56 rfl rfl rfl) rfl)) ?_
  refine rg_put (d := 7) (v := .pt 101 29) rfl (og rfl (of_eff (s_field_pt rfl Tryd.underlying56 rfl ti50 rfl rfl rfl) rfl)) ?_
  refine rg_put (d := 8) (v := .d (.sl 8 (List.map ePg s.res.pass))) rfl (og rfl (op_load_pt rfl Tryd.underlying50 rfl rfl rfl rfl rfl)) ?_
  refine rg_put (d := 9) (v := .d (.fl (.string id))) rfl (og rfl (op_move rfl rfl rfl)) ?_
  refine rg_put (d := 10) (v := .d (.fl (.int .i64 (pix s.res.pass id)))) rfl (og rfl (op_call rfl Tryd.func30 nm30 rfl (.cons rfl (.d _) (.cons rfl (.d _) .nil)) (pix30 s.res.pass id (by have := hT.2.2.2.2.2.2.2.2.1; omega)) rfl)) ?_
  refine rg_put (d := 11) (v := .d (.fl (.bool ((decide ((pix s.res.pass id) < 0)))))) rfl (og rfl (op_bin rfl rfl rfl (b_lss _ _ _ _) rfl)) ?_
  refine rg_done rfl ?_
  refine a_cond rfl (fun h1 => ?_) (fun h1 => ?_)
  · skip
    have h2 := t_dec h1
    refine a_rseq ?_
    refine rg_put (d := 4) (v := .d (.fl (.slice none 0 0))) rfl (og rfl (op_assign rfl rfl rfl)) ?_
    refine rg_put (d := 5) (v := .d (.fl (.int .i64 10))) rfl (og rfl (op_assign rfl rfl rfl)) ?_
    refine rg_done rfl ?_
    refine a_ret ?_
    show ∃ ds, ResL _ _ _ ds ∧ RV.of ds = _
    refine ⟨[.sl 3 (List.map eFc []), .fl (.int .i64 10)], (.cons (.tmp rfl (.cv (Cv.nil _))) (.cons (.tmp rfl (.d _)) .nil)), ?_⟩
    rw [psg_no (pix_any h1)]; rfl
  · skip
    have h3 := f_dec h1
    refine a_skip ?_
    show A _ _ _ _ _ _ _
    refine a_rseq ?_
    refine rg_put (d := 12) (v := .pt 101 29) rfl (og rfl (of_eff (s_field_pt rfl Tryd.underlying64 rfl ti56 rfl rfl rfl) rfl)) ?_
    refine rg_put (d := 13) (v := .d (.ag (eRs s.res))) rfl (og rfl (of_eff (s_load_pts rfl Tryd.underlying56 rfl ti56 rfl rfl rfl rfl) rfl)) ?_
    refine rg_put (d := 14) (v := .d (.fl (.string id))) rfl (og rfl (op_move rfl rfl rfl)) ?_
    refine rg_put (d := 15) (v := .d (.sl 3 (List.map eFc (fct s.res id)))) rfl (og rfl (op_call rfl Tryd.func27 nm27 rfl (.cons rfl (.d _) (.cons rfl (.d _) .nil)) (fct27 s.res id hT.1 hT.2.1 hT.2.2.1 hT.2.2.2.2.2.1) rfl)) ?_
    refine rg_put (d := 4) (v := .d (.sl 3 (List.map eFc (fct s.res id)))) rfl (og rfl (op_assign rfl rfl rfl)) ?_
    refine rg_put (d := 5) (v := .d (.fl (.int .i64 0))) rfl (og rfl (op_assign rfl rfl rfl)) ?_
    refine rg_done rfl ?_
    refine a_ret ?_
    show ∃ ds, ResL _ _ _ ds ∧ RV.of ds = _
    refine ⟨[.sl 3 (List.map eFc (fct s.res id)), .fl (.int .i64 0)], (.cons (.tmp rfl (.d _)) (.cons (.tmp rfl (.d _)) .nil)), ?_⟩
    rw [psg_yes (pix_any h1)]; rfl
end Go.Proofs.YtgfbgkoifcacdaaDoor.Wk
