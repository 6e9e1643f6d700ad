/- Corrected detections, both sides, and the law. Conditions: as each theorem names them. -/
import Derived.Test.YtgelodnkfajgjaaGreatDoorTd
import Derived.Test.YtgelodnkfajgjaaGreatDoorDw
import Derived.Test.YtgelodnkfajgjaaGreatDoorTw
import Derived.Test.YtgelodnkfajgjaaGreatDoorAl15
import Derived.Test.YtgelodnkfajgjaaGreatDoorP1
set_option linter.unusedSimpArgs false
set_option linter.unusedVariables false
namespace Go.Proofs.YtgelodnkfajgjaaGreatDoor.Wk
open Go Go.RowKit Go.Shelf Go.Lib Go.Proofs.YtgelodnkfajgjaaGreatDoor Go.Proofs.YtgelodnkfajgjaaGreatDoor.Pm Go.Proofs.YtgelodnkfajgjaaGreatDoor.Av
def zDc : Dc := ⟨⟨#[]⟩, ⟨#[]⟩, 0, 0, [], []⟩
def zDen : Den := ⟨⟨#[]⟩, 0, 0, ⟨#[]⟩, ⟨#[]⟩, 0, 0⟩
def zSen : Sen := ⟨zDen, 0, ⟨#[]⟩, 0, 0⟩
def fnE (l : List Dc) (s : ByteArray) : Dc × Bool := match l.find? (fun d => sEq d.name s) with
  | some d => (d, true)
  | none => (zDc, false)
theorem fnE_at {l : List Dc} {s : ByteArray} {k : Nat} (hk : k < l.length) (h : ∀ q, q < k → sEq (ix l q).name s = false) (hp : sEq (ix l k).name s = true) : fnE l s = (ix l k, true) := by unfold fnE; rw [fnd_at (p := fun d : Dc => sEq d.name s) hk h hp]
theorem fnE_no {l : List Dc} {s : ByteArray} (h : ∀ q, q < l.length → sEq (ix l q).name s = false) : fnE l s = (zDc, false) := by unfold fnE; rw [fnd_no (p := fun d : Dc => sEq d.name s) h]
structure okL (l : List Dc) : Prop where
  n : l.length ≤ 20
  o : ∀ d ∈ l, d.offs.length ≤ 1000
  w : ∀ d ∈ l, d.down.length ≤ 1000
  r : ∀ d ∈ l, ∀ o ∈ d.offs, -9223372036854775808 ≤ o.dl ∧ o.dl ≤ 9223372036854775807
theorem fnE_ok {l : List Dc} (h : okL l) (s : ByteArray) : (fnE l s).1.offs.length ≤ 1000 ∧ (fnE l s).1.down.length ≤ 1000 ∧ ∀ o ∈ (fnE l s).1.offs, -9223372036854775808 ≤ o.dl ∧ o.dl ≤ 9223372036854775807 := by
  unfold fnE
  cases e : l.find? (fun d => sEq d.name s) with
  | none => exact ⟨by show (0 : Nat) ≤ 1000; omega, by show (0 : Nat) ≤ 1000; omega, fun o ho => by cases ho⟩
  | some d =>
    have hm := List.mem_of_find?_eq_some e
    exact ⟨h.o d hm, h.w d hm, h.r d hm⟩
def nrmB (s : ByteArray) : Bool := (nmI s == 0) && sEq (nmS s) s
def inL (d : Den) : Bool := ((decide (0 ≤ d.seq) && decide (d.seq ≤ 2147483648)) && decide (0 ≤ d.score)) && decide (d.score ≤ 1000)
def fit (k : Int) (d : Den) : Bool := bif k == 1 then ((Tm.ck d.tag == 0) && sEq d.plate ⟨#[]⟩) && (d.axl == 0) else bif k == 2 then ((nrmB d.plate && sEq d.tag ⟨#[]⟩) && (d.axl == 0)) else bif k == 3 then (((decide (1 ≤ d.axl) && decide (d.axl ≤ 20)) && sEq d.tag ⟨#[]⟩) && sEq d.plate ⟨#[]⟩) else false
def rsn (c : Can) : Int × Int := bif !c.known then (1, 0) else bif (!(inL c.d) || !(fit c.dev.kind c.d)) then (3, 0) else bif !(Dw.clk c.dev c.d.time).2 then (2, 0) else bif !(Dw.wrk c.dev (Dw.clk c.dev c.d.time).1) then (5, 0) else (0, (Dw.clk c.dev c.d.time).1)
def fnC (l : List Dc) (d : Den) : Can := ⟨d, (fnE l d.dev).1, (fnE l d.dev).2⟩
def crS (c : Can) : Sen := bif (rsn c).1 != 0 then zSen else ⟨c.d, (rsn c).2, c.dev.point, c.dev.lane, c.dev.kind⟩
theorem cr_bad {c : Can} (h : ((rsn c).1 != 0) = true) : crS c = zSen := by unfold crS; rw [h]; rfl
theorem cr_ok {c : Can} (h : ((rsn c).1 != 0) = false) : crS c = ⟨c.d, (rsn c).2, c.dev.point, c.dev.lane, c.dev.kind⟩ := by unfold crS; rw [h]; rfl
theorem rs_cr {c : Can} {a b : Int} (h : rsn c = (a, b)) (ha : a ≠ 0) : crS c = zSen := cr_bad (by rw [h]; simpa using ha)
theorem rs_cr0 {c : Can} {b : Int} (h : rsn c = (0, b)) : crS c = ⟨c.d, b, c.dev.point, c.dev.lane, c.dev.kind⟩ := by rw [cr_ok (by rw [h]; rfl), h]
theorem inL_no {d : Den} (h : ¬ (0 ≤ d.seq ∧ d.seq ≤ 2147483648 ∧ 0 ≤ d.score ∧ d.score ≤ 1000)) : inL d = false := by
  cases e : inL d with
  | false => rfl
  | true =>
    unfold inL at e
    simp only [Bool.and_eq_true, decide_eq_true_eq] at e
    exact absurd ⟨e.1.1.1, e.1.1.2, e.1.2, e.2⟩ h
theorem inL_yes {d : Den} (h : 0 ≤ d.seq ∧ d.seq ≤ 2147483648 ∧ 0 ≤ d.score ∧ d.score ≤ 1000) : inL d = true := by
  unfold inL
  rw [decide_eq_true h.1, decide_eq_true h.2.1, decide_eq_true h.2.2.1, decide_eq_true h.2.2.2]; rfl
def shB (d : Den) : Bool := (decide ((d.dev.size : Int) ≤ 40) && decide ((d.tag.size : Int) ≤ 40)) && decide ((d.plate.size : Int) ≤ 40)
def dvB (d : Dc) : Bool := ((decide (40 < (d.name.size : Int)) || decide (40 < (d.point.size : Int))) || decide (20 < (d.offs.length : Int))) || decide (20 < (d.down.length : Int))
def fwB (l : List Dc) : Bool := (l.all fun d => !(dvB d)) && decide ((l.length : Int) ≤ 20)
theorem fwB_t {l : List Dc} (h : fwB l = true) (hr : ∀ d ∈ l, ∀ o ∈ d.offs, -9223372036854775808 ≤ o.dl ∧ o.dl ≤ 9223372036854775807) : okL l := by
  unfold fwB at h
  simp only [Bool.and_eq_true, List.all_eq_true, decide_eq_true_eq, Bool.not_eq_true'] at h
  refine ⟨by omega, fun d hd => ?_, fun d hd => ?_, hr⟩
  all_goals
    have := h.1 d hd
    unfold dvB at this
    simp only [Bool.or_eq_false_iff, decide_eq_false_iff_not] at this
    omega
theorem bneb {a b : Int} {c : Bool} (h : (a != b) = c) : (a == b) = !c := by rw [← h]; simp [bne]

theorem tagC27 (s : ByteArray) : Ctr Tryz.prog 27 [.fl (.string s)] (.d (.fl (.int .i64 (Tm.ck s)))) := ctr_flat [.string s] (fun w => Tk.check15 s w)
theorem tagC32 (s : ByteArray) : Ctr Tryz.prog 32 [.fl (.string s)] (.d (.fl (.int .i64 (Tm.ck s)))) := ctr_flat [.string s] (fun w => Tk.check16 s w)
set_option maxHeartbeats 4000000 in
set_option maxRecDepth 100000 in
theorem cloC (d : Dc) (s : ByteArray) : Ctr Tryz.prog 116 [.ag (eDc d), .el [.fl (.string s)]] (.d (.fl (.bool (sEq d.name s)))) := by
  refine ctr (n := 8) (rs := #[.tmp 3]) (L := [(0, .d (.ag (eDc d))), (1, .el [.fl (.string s)])]) Tryz.func116 rfl rfl rfl rfl rfl (fun w0 U0 => ?_)
  refine a_rseq ?_
  refine rg_nam (d := 2) (v := .pt 101 0) (m := 101) (nw := [(101, .bx 77 (eDc d))]) rfl (og rfl (of_eff (op_box 101 rfl rfl rfl rfl) rfl)) rfl ?_
  refine rg_put (d := 3) (v := .d (.fl (.bool false))) rfl (og rfl (op_assign rfl rfl rfl)) ?_
  refine rg_done rfl ?_
  refine a_rseq ?_
  refine rg_put (d := 4) (v := .pt 101 0) rfl (og rfl (of_eff (s_field_pt rfl Tryz.underlying77 rfl ti9 rfl rfl rfl) rfl)) ?_
  refine rg_put (d := 5) (v := .d (.fl (.string d.name))) rfl (og rfl (op_load_pt rfl Tryz.underlying9 rfl rfl rfl rfl rfl)) ?_
  refine rg_put (d := 6) (v := .d (.fl (.string s))) rfl (og rfl (op_load_el rfl Tryz.underlying9 rfl rfl rfl rfl)) ?_
  refine rg_put (d := 7) (v := .d (.fl (.bool (sEq d.name s)))) rfl (og rfl (op_bin rfl rfl rfl (b_seq _ _ _) rfl)) ?_
  refine rg_put (d := 3) (v := .d (.fl (.bool (sEq d.name s)))) rfl (og rfl (op_assign rfl rfl rfl)) ?_
  refine rg_done rfl ?_
  refine a_ret ?_
  show ∃ ds, ResL _ _ _ ds ∧ RV.of ds = _
  refine ⟨[.fl (.bool (sEq d.name s))], (.cons (.tmp rfl (.d _)) .nil), ?_⟩
  rfl
set_option maxHeartbeats 4000000 in
set_option maxRecDepth 100000 in
theorem firC (l : List Dc) (s : ByteArray) (hl8 : l.length ≤ 1000) : Ctr Tryz.prog 115 [.sl 6 (List.map eDc l), .fn 116 [.el [.fl (.string s)]]] (.tu [.ag (eDc (fnE l s).1), .fl (.bool (fnE l s).2)]) := by
  refine ctr (n := 21) (rs := #[.cell 4 77, .tmp 5]) (L := [(0, .d (.sl 6 (List.map eDc l))), (1, .d (.fn 116 [.el [.fl (.string s)]]))]) Tryz.func115 rfl rfl rfl rfl rfl (fun w0 U0 => ?_)
  refine a_rseq ?_
  refine rg_nam (d := 4) (v := .pt 101 0) (m := 101) (nw := [(101, .bx 77 ([.fl (.string (⟨#[]⟩)), .fl (.string (⟨#[]⟩)), .fl (.int .i64 0), .fl (.int .i64 0), .fl (.slice none 0 0), .fl (.slice none 0 0)]))]) rfl (og rfl (of_eff (s_alloc 101 rfl ti77 (by kernel_rfl) rfl) rfl)) rfl ?_
  refine rg_put (d := 5) (v := .d (.fl (.bool false))) rfl (og rfl (op_assign rfl rfl rfl)) ?_
  refine rg_done rfl ?_
  refine a_seq ?_
  refine a_rseq ?_
  refine rg_put (d := 9) (v := .d (.sl 6 (List.map eDc l))) rfl (og rfl (op_move rfl rfl rfl)) ?_
  refine rg_put (d := 10) (v := .d (.fl (.int .i64 (l.length : Int)))) rfl (og rfl (s_len rfl Tryz.underlying38 rfl rfl)) ?_
  refine rg_put (d := 11) (v := .d (.fl (.int .i64 0))) rfl (og rfl (op_move rfl rfl rfl)) ?_
  refine rg_done rfl ?_
  refine a_block ?_
  refine a_loop (ι := Nat) (fun k => SS [(0, .d (.sl 6 (List.map eDc l))), (1, .d (.fn 116 [.el [.fl (.string s)]])), (4, .pt 101 0), (9, .d (.sl 6 (List.map eDc l))), (10, .d (.fl (.int .i64 (l.length : Int)))), (11, .d (.fl (.int .i64 (k : Int))))] [(101, .bx 77 ([.fl (.string (⟨#[]⟩)), .fl (.string (⟨#[]⟩)), .fl (.int .i64 0), .fl (.int .i64 0), .fl (.slice none 0 0), .fl (.slice none 0 0)]))]) (fun k => k ≤ l.length ∧ ∀ q, q < k → (sEq (ix l q).name s) = false) (fun k => l.length - k) 0 (⟨by omega, fun q h => by omega⟩) (imp_forget rfl ⟨rfl, rfl, rfl, rfl, rfl, (by first | rfl | exact ci (by omega) | exact ci (by simp) | exact cd (by simp) | simp), trivial⟩ ⟨rfl, trivial⟩) (fun k hok => ?_)
  obtain ⟨hkk, hq⟩ := hok
  refine a_rseq ?_
  refine rg_put (d := 12) (v := .d (.fl (.bool ((decide ((k : Int) < (l.length : Int))))))) rfl (og rfl (op_bin rfl rfl rfl (b_lss _ _ _ _) rfl)) ?_
  refine rg_done rfl ?_
  refine a_seq ?_
  refine a_cond rfl (fun h1 => ?_) (fun h1 => ?_)
  · skip
    have h2 := t_dec h1
    refine a_skip ?_
    show A _ _ _ _ _ _ _
    refine a_seq ?_
    refine a_block ?_
    refine a_rseq ?_
    refine rg_put (d := 13) (v := .el ((eDc (ix l k)))) rfl (og rfl (s_index rfl Tryz.underlying38 ti77 rfl rfl (by omega) (row_at (by omega)) rfl)) ?_
    refine rg_put (d := 14) (v := .d (.ag (eDc (ix l k)))) rfl (og rfl (of_eff (s_load_els rfl Tryz.underlying77 rfl ti77 rfl rfl rfl) rfl)) ?_
    refine rg_nam (d := 7) (v := .pt 102 0) (m := 102) (nw := [(102, .bx 77 ([.fl (.string (⟨#[]⟩)), .fl (.string (⟨#[]⟩)), .fl (.int .i64 0), .fl (.int .i64 0), .fl (.slice none 0 0), .fl (.slice none 0 0)]))]) rfl (og rfl (of_eff (s_alloc 102 rfl ti77 (by kernel_rfl) rfl) rfl)) rfl ?_
    refine rg_sto (nw := [(102, .bx 77 ((eDc (ix l k))))]) rfl (og rfl (of_eff (s_store rfl rfl ti77 rfl rfl rfl rfl rfl rfl) rfl)) ?_
    refine rg_done rfl ?_
    refine a_rseq ?_
    refine rg_put (d := 15) (v := .d (.fn 116 [.el [.fl (.string s)]])) rfl (og rfl (op_move rfl rfl rfl)) ?_
    refine rg_put (d := 16) (v := .d (.ag (eDc (ix l k)))) rfl (og rfl (of_eff (s_load_pts rfl Tryz.underlying77 rfl ti77 rfl rfl rfl rfl) rfl)) ?_
    refine rg_put (d := 17) (v := .d (.fl (.bool ((sEq (ix l k).name s))))) rfl (og rfl (op_callV rfl rfl ⟨_, Tryz.func116, nm116, rfl⟩ (.cons rfl (.d _) .nil) (cloC (ix l k) s) rfl)) ?_
    refine rg_done rfl ?_
    refine a_cond rfl (fun h3 => ?_) (fun h3 => ?_)
    · skip
      refine a_rseq ?_
      refine rg_put (d := 18) (v := .d (.ag (eDc (ix l k)))) rfl (og rfl (of_eff (s_load_pts rfl Tryz.underlying77 rfl ti77 rfl rfl rfl rfl) rfl)) ?_
      refine rg_sto (nw := [(101, .bx 77 ((eDc (ix l k))))]) rfl (og rfl (of_eff (s_store rfl rfl ti77 rfl rfl rfl rfl rfl rfl) rfl)) ?_
      refine rg_put (d := 5) (v := .d (.fl (.bool true))) rfl (og rfl (op_assign rfl rfl rfl)) ?_
      refine rg_done rfl ?_
      refine a_ret ?_
      show ∃ ds, ResL _ _ _ ds ∧ RV.of ds = _
      refine ⟨[.ag [.fl (.string ((ix l k).name)), .fl (.string ((ix l k).point)), .fl (.int .i64 ((ix l k).kind)), .fl (.int .i64 ((ix l k).lane)), .sl 2 (List.map eOf ((ix l k).offs)), .sl 2 (List.map eIv ((ix l k).down))], .fl (.bool true)], (.cons (.cellT rfl rfl Tryz.underlying77 rfl ti77 rfl (Cv.ag (xs := [.fl (.string ((ix l k).name)), .fl (.string ((ix l k).point)), .fl (.int .i64 ((ix l k).kind)), .fl (.int .i64 ((ix l k).lane)), .sl 2 (List.map eOf ((ix l k).offs)), .sl 2 (List.map eIv ((ix l k).down))]) (ys := [.fl (.string ((ix l k).name)), .fl (.string ((ix l k).point)), .fl (.int .i64 ((ix l k).kind)), .fl (.int .i64 ((ix l k).lane)), .sl 2 (List.map eOf ((ix l k).offs)), .sl 2 (List.map eIv ((ix l k).down))]) ⟨Cv.refl _, Cv.refl _, Cv.refl _, Cv.refl _, Cv.refl _, Cv.refl _, trivial⟩)) (.cons (.tmp rfl (.d _)) .nil)), ?_⟩
      rw [fnE_at (s := s) (by omega) hq h3]; rfl
    · skip
      refine a_skip ?_
      show A _ _ _ _ _ _ _
      refine a_region ?_
      refine rg_put (d := 19) (v := .d (.fl (.int .i64 (((k : Int) + 1))))) rfl (og rfl (op_bin rfl rfl rfl (fun x y w => b_add64 _ _ _ x y w (by omega)) rfl)) ?_
      refine rg_put (d := 11) (v := .d (.fl (.int .i64 (((k : Int) + 1))))) rfl (og rfl (op_move rfl rfl rfl)) ?_
      refine rg_done rfl ?_
      have hx : (sEq (ix l k).name s) = false := h3
      show ∃ i, _ ∧ _ ∧ Imp _ _ _ _ _
      refine ⟨k + 1, ⟨by omega, fun q h => (Nat.lt_succ_iff_lt_or_eq.1 h).elim (hq q) (fun e => by rw [e]; exact hx)⟩, by omega, imp_forget rfl ⟨rfl, rfl, rfl, rfl, rfl, (by first | rfl | exact ci (by omega) | exact ci (by simp) | exact cd (by simp) | simp), trivial⟩ ⟨rfl, trivial⟩⟩
  · skip
    have h4 := f_dec h1
    refine a_exit ?_
    show A _ _ _ _ _ _ _
    refine a_rseq ?_
    refine rg_nam (d := 8) (v := .pt 103 0) (m := 103) (nw := [(103, .bx 77 ([.fl (.string (⟨#[]⟩)), .fl (.string (⟨#[]⟩)), .fl (.int .i64 0), .fl (.int .i64 0), .fl (.slice none 0 0), .fl (.slice none 0 0)]))]) rfl (og rfl (of_eff (s_alloc 103 rfl ti77 (by kernel_rfl) rfl) rfl)) rfl ?_
    refine rg_done rfl ?_
    refine a_rseq ?_
    refine rg_put (d := 20) (v := .d (.ag [.fl (.string (⟨#[]⟩)), .fl (.string (⟨#[]⟩)), .fl (.int .i64 0), .fl (.int .i64 0), .fl (.slice none 0 0), .fl (.slice none 0 0)])) rfl (og rfl (of_eff (s_load_pts rfl Tryz.underlying77 rfl ti77 rfl rfl rfl rfl) rfl)) ?_
    refine rg_sto (nw := [(101, .bx 77 ([.fl (.string (⟨#[]⟩)), .fl (.string (⟨#[]⟩)), .fl (.int .i64 0), .fl (.int .i64 0), .fl (.slice none 0 0), .fl (.slice none 0 0)]))]) rfl (og rfl (of_eff (s_store rfl rfl ti77 rfl rfl rfl rfl rfl rfl) rfl)) ?_
    refine rg_put (d := 5) (v := .d (.fl (.bool false))) rfl (og rfl (op_assign rfl rfl rfl)) ?_
    refine rg_done rfl ?_
    refine a_ret ?_
    show ∃ ds, ResL _ _ _ ds ∧ RV.of ds = _
    refine ⟨[.ag [.fl (.string (⟨#[]⟩)), .fl (.string (⟨#[]⟩)), .fl (.int .i64 0), .fl (.int .i64 0), .sl 2 (List.map eOf []), .sl 2 (List.map eIv [])], .fl (.bool false)], (.cons (.cellT rfl rfl Tryz.underlying77 rfl ti77 rfl (Cv.ag (xs := [.fl (.string (⟨#[]⟩)), .fl (.string (⟨#[]⟩)), .fl (.int .i64 0), .fl (.int .i64 0), .fl (.slice none 0 0), .fl (.slice none 0 0)]) (ys := [.fl (.string (⟨#[]⟩)), .fl (.string (⟨#[]⟩)), .fl (.int .i64 0), .fl (.int .i64 0), .sl 2 (List.map eOf []), .sl 2 (List.map eIv [])]) ⟨Cv.refl _, Cv.refl _, Cv.refl _, Cv.refl _, Cv.nil _, Cv.nil _, trivial⟩)) (.cons (.tmp rfl (.d _)) .nil)), ?_⟩
    rw [fnE_no (s := s) (fun q h => hq q (by omega))]; rfl
set_option maxHeartbeats 4000000 in
set_option maxRecDepth 100000 in
theorem cloO (l : List Of) (hl : l.length ≤ 1000) : Ctr Tryz.prog 161 [.sl 2 (List.map eOf l)] (.d (.sl 2 (List.map eOf l))) := by
  refine ctr (n := 8) (rs := #[.tmp 2]) (L := [(0, .d (.sl 2 (List.map eOf l)))]) Tryz.func161 rfl rfl rfl rfl rfl (fun w0 U0 => ?_)
  refine a_rseq ?_
  refine rg_put (d := 2) (v := .d (.fl (.slice none 0 0))) rfl (og rfl (op_assign rfl rfl rfl)) ?_
  refine rg_done rfl ?_
  refine a_seq ?_
  refine a_rseq ?_
  refine rg_put (d := 3) (v := .d (.sl 2 (List.map eOf l))) rfl (og rfl (op_move rfl rfl rfl)) ?_
  refine rg_isnil rfl rfl rfl Tryz.underlying74 rfl rfl rfl (fun bh1 nh1 => ?_)
  refine rg_done rfl ?_
  refine a_cond rfl (fun h2 => ?_) (fun h2 => ?_)
  · skip
    refine a_rseq ?_
    refine rg_put (d := 2) (v := .d (.fl (.slice none 0 0))) rfl (og rfl (op_assign rfl rfl rfl)) ?_
    refine rg_done rfl ?_
    refine a_ret ?_
    show ∃ ds, ResL _ _ _ ds ∧ RV.of ds = _
    refine ⟨[.sl 2 (List.map eOf [])], (.cons (.tmp rfl (.cv (Cv.nil _))) .nil), ?_⟩
    have hnil : l = [] := by simpa using nh1 h2
    rw [hnil]; rfl
  · skip
    refine a_skip ?_
    show A _ _ _ _ _ _ _
    refine a_rseq ?_
    refine rg_nam (d := 5) (v := .ow 101) (m := 101) (nw := [(101, .tr 134 2 (tD eOf []))]) rfl (og rfl (of_eff (op_slice0 101 rfl Tryz.underlying74 ti134 rfl) rfl)) rfl ?_
    refine rg_put (d := 6) (v := .d (.sl 2 (List.map eOf l))) rfl (og rfl (op_move rfl rfl rfl)) ?_
    refine rg_nam (d := 7) (v := .ow 102) (m := 102) (nw := [(102, .tr 134 2 (tD eOf ([] ++ l))), (101, .no)]) rfl (og rfl (of_eff (s_append_td 102 rfl Tryz.underlying74 ti134 rfl rfl rfl rfl rfl (.d _) (by simp only [List.length_nil]; omega) rfl) rfl)) rfl ?_
    refine rg_put (d := 2) (v := .ow 102) rfl (og rfl (op_assign rfl rfl rfl)) ?_
    refine rg_done rfl ?_
    refine a_imp (imp_leakT 2 102 rfl rfl) ?_
    refine a_ret ?_
    show ∃ ds, ResL _ _ _ ds ∧ RV.of ds = _
    refine ⟨[.sl 2 (List.map eOf ([] ++ l))], (.cons (.tmp rfl (.d _)) .nil), ?_⟩
    rfl
set_option maxHeartbeats 4000000 in
set_option maxRecDepth 100000 in
theorem cloI (l : List Iv) (hl : l.length ≤ 1000) : Ctr Tryz.prog 162 [.sl 2 (List.map eIv l)] (.d (.sl 2 (List.map eIv l))) := by
  refine ctr (n := 8) (rs := #[.tmp 2]) (L := [(0, .d (.sl 2 (List.map eIv l)))]) Tryz.func162 rfl rfl rfl rfl rfl (fun w0 U0 => ?_)
  refine a_rseq ?_
  refine rg_put (d := 2) (v := .d (.fl (.slice none 0 0))) rfl (og rfl (op_assign rfl rfl rfl)) ?_
  refine rg_done rfl ?_
  refine a_seq ?_
  refine a_rseq ?_
  refine rg_put (d := 3) (v := .d (.sl 2 (List.map eIv l))) rfl (og rfl (op_move rfl rfl rfl)) ?_
  refine rg_isnil rfl rfl rfl Tryz.underlying75 rfl rfl rfl (fun bh1 nh1 => ?_)
  refine rg_done rfl ?_
  refine a_cond rfl (fun h2 => ?_) (fun h2 => ?_)
  · skip
    refine a_rseq ?_
    refine rg_put (d := 2) (v := .d (.fl (.slice none 0 0))) rfl (og rfl (op_assign rfl rfl rfl)) ?_
    refine rg_done rfl ?_
    refine a_ret ?_
    show ∃ ds, ResL _ _ _ ds ∧ RV.of ds = _
    refine ⟨[.sl 2 (List.map eIv [])], (.cons (.tmp rfl (.cv (Cv.nil _))) .nil), ?_⟩
    have hnil : l = [] := by simpa using nh1 h2
    rw [hnil]; rfl
  · skip
    refine a_skip ?_
    show A _ _ _ _ _ _ _
    refine a_rseq ?_
    refine rg_nam (d := 5) (v := .ow 101) (m := 101) (nw := [(101, .tr 137 2 (tD eIv []))]) rfl (og rfl (of_eff (op_slice0 101 rfl Tryz.underlying75 ti137 rfl) rfl)) rfl ?_
    refine rg_put (d := 6) (v := .d (.sl 2 (List.map eIv l))) rfl (og rfl (op_move rfl rfl rfl)) ?_
    refine rg_nam (d := 7) (v := .ow 102) (m := 102) (nw := [(102, .tr 137 2 (tD eIv ([] ++ l))), (101, .no)]) rfl (og rfl (of_eff (s_append_td 102 rfl Tryz.underlying75 ti137 rfl rfl rfl rfl rfl (.d _) (by simp only [List.length_nil]; omega) rfl) rfl)) rfl ?_
    refine rg_put (d := 2) (v := .ow 102) rfl (og rfl (op_assign rfl rfl rfl)) ?_
    refine rg_done rfl ?_
    refine a_imp (imp_leakT 2 102 rfl rfl) ?_
    refine a_ret ?_
    show ∃ ds, ResL _ _ _ ds ∧ RV.of ds = _
    refine ⟨[.sl 2 (List.map eIv ([] ++ l))], (.cons (.tmp rfl (.d _)) .nil), ?_⟩
    rfl
set_option maxHeartbeats 4000000 in
set_option maxRecDepth 100000 in
theorem frC (d : Dc) (h1 : d.offs.length ≤ 1000) (h2 : d.down.length ≤ 1000) : Ctr Tryz.prog 117 [.ag (eDc d)] (.d (.ag (eDc d))) := by
  refine ctr (n := 12) (rs := #[.cell 2 77]) (L := [(0, .d (.ag (eDc d)))]) Tryz.func117 rfl rfl rfl rfl rfl (fun w0 U0 => ?_)
  refine a_rseq ?_
  refine rg_nam (d := 1) (v := .pt 101 0) (m := 101) (nw := [(101, .bx 77 (eDc d))]) rfl (og rfl (of_eff (op_box 101 rfl rfl rfl rfl) rfl)) rfl ?_
  refine rg_nam (d := 2) (v := .pt 102 0) (m := 102) (nw := [(102, .bx 77 ([.fl (.string (⟨#[]⟩)), .fl (.string (⟨#[]⟩)), .fl (.int .i64 0), .fl (.int .i64 0), .fl (.slice none 0 0), .fl (.slice none 0 0)]))]) rfl (og rfl (of_eff (s_alloc 102 rfl ti77 (by kernel_rfl) rfl) rfl)) rfl ?_
  refine rg_done rfl ?_
  refine a_rseq ?_
  refine rg_put (d := 3) (v := .pt 101 4) rfl (og rfl (of_eff (s_field_pt rfl Tryz.underlying77 rfl ti74 rfl rfl rfl) rfl)) ?_
  refine rg_put (d := 4) (v := .d (.sl 2 (List.map eOf d.offs))) rfl (og rfl (op_load_pt rfl Tryz.underlying74 rfl rfl rfl rfl rfl)) ?_
  refine rg_put (d := 5) (v := .d (.sl 2 (List.map eOf d.offs))) rfl (og rfl (op_call rfl Tryz.func161 nm161 rfl (.cons rfl (.d _) .nil) (cloO d.offs (by omega)) rfl)) ?_
  refine rg_put (d := 6) (v := .pt 101 4) rfl (og rfl (of_eff (s_field_pt rfl Tryz.underlying77 rfl ti74 rfl rfl rfl) rfl)) ?_
  refine rg_sto (nw := [(101, .bx 77 [.fl (.string d.name), .fl (.string d.point), .fl (.int .i64 d.kind), .fl (.int .i64 d.lane), .sl 2 (List.map eOf d.offs), .sl 2 (List.map eIv d.down)])]) rfl (og rfl (of_eff (s_store rfl rfl ti74 rfl rfl rfl rfl rfl rfl) rfl)) ?_
  refine rg_done rfl ?_
  refine a_rseq ?_
  refine rg_put (d := 7) (v := .pt 101 5) rfl (og rfl (of_eff (s_field_pt rfl Tryz.underlying77 rfl ti75 rfl rfl rfl) rfl)) ?_
  refine rg_put (d := 8) (v := .d (.sl 2 (List.map eIv d.down))) rfl (og rfl (op_load_pt rfl Tryz.underlying75 rfl rfl rfl rfl rfl)) ?_
  refine rg_put (d := 9) (v := .d (.sl 2 (List.map eIv d.down))) rfl (og rfl (op_call rfl Tryz.func162 nm162 rfl (.cons rfl (.d _) .nil) (cloI d.down (by omega)) rfl)) ?_
  refine rg_put (d := 10) (v := .pt 101 5) rfl (og rfl (of_eff (s_field_pt rfl Tryz.underlying77 rfl ti75 rfl rfl rfl) rfl)) ?_
  refine rg_sto (nw := [(101, .bx 77 [.fl (.string d.name), .fl (.string d.point), .fl (.int .i64 d.kind), .fl (.int .i64 d.lane), .sl 2 (List.map eOf d.offs), .sl 2 (List.map eIv d.down)])]) rfl (og rfl (of_eff (s_store rfl rfl ti75 rfl rfl rfl rfl rfl rfl) rfl)) ?_
  refine rg_done rfl ?_
  refine a_rseq ?_
  refine rg_put (d := 11) (v := .d (.ag (eDc d))) rfl (og rfl (of_eff (s_load_pts rfl Tryz.underlying77 rfl ti77 rfl rfl rfl rfl) rfl)) ?_
  refine rg_sto (nw := [(102, .bx 77 (eDc d))]) rfl (og rfl (of_eff (s_store rfl rfl ti77 rfl rfl rfl rfl rfl rfl) rfl)) ?_
  refine rg_done rfl ?_
  refine a_ret ?_
  show ∃ ds, ResL _ _ _ ds ∧ RV.of ds = _
  refine ⟨[.ag [.fl (.string d.name), .fl (.string d.point), .fl (.int .i64 d.kind), .fl (.int .i64 d.lane), .sl 2 (List.map eOf d.offs), .sl 2 (List.map eIv d.down)]], (.cons (.cellT rfl rfl Tryz.underlying77 rfl ti77 rfl (Cv.ag (xs := [.fl (.string d.name), .fl (.string d.point), .fl (.int .i64 d.kind), .fl (.int .i64 d.lane), .sl 2 (List.map eOf d.offs), .sl 2 (List.map eIv d.down)]) (ys := [.fl (.string d.name), .fl (.string d.point), .fl (.int .i64 d.kind), .fl (.int .i64 d.lane), .sl 2 (List.map eOf d.offs), .sl 2 (List.map eIv d.down)]) ⟨Cv.refl _, Cv.refl _, Cv.refl _, Cv.refl _, Cv.refl _, Cv.refl _, trivial⟩)) .nil), ?_⟩
  rfl
set_option maxHeartbeats 4000000 in
set_option maxRecDepth 100000 in
theorem fndC (l : List Dc) (s : ByteArray) (hl : okL l) : Ctr Tryz.prog 82 [.sl 6 (List.map eDc l), .fl (.string s)] (.tu [.ag (eDc (fnE l s).1), .fl (.bool (fnE l s).2)]) := by
  refine ctr (n := 17) (rs := #[.cell 4 77, .tmp 5]) (L := [(0, .d (.sl 6 (List.map eDc l))), (1, .d (.fl (.string s)))]) Tryz.func82 rfl rfl rfl rfl rfl (fun w0 U0 => ?_)
  refine a_rseq ?_
  refine rg_nam (d := 3) (v := .pt 101 0) (m := 101) (nw := [(101, .bx 9 [.fl (.string s)])]) rfl (og rfl (of_eff (op_box 101 rfl rfl rfl rfl) rfl)) rfl ?_
  refine rg_nam (d := 4) (v := .pt 102 0) (m := 102) (nw := [(102, .bx 77 ([.fl (.string (⟨#[]⟩)), .fl (.string (⟨#[]⟩)), .fl (.int .i64 0), .fl (.int .i64 0), .fl (.slice none 0 0), .fl (.slice none 0 0)]))]) rfl (og rfl (of_eff (s_alloc 102 rfl ti77 (by kernel_rfl) rfl) rfl)) rfl ?_
  refine rg_put (d := 5) (v := .d (.fl (.bool false))) rfl (og rfl (op_assign rfl rfl rfl)) ?_
  refine rg_done rfl ?_
  refine a_rseq ?_
  refine rg_imp (imp_freeze 3 101 rfl rfl) ?_
  refine rg_put (d := 9) (v := .d (.sl 6 (List.map eDc l))) rfl (og rfl (op_move rfl rfl rfl)) ?_
  refine rg_put (d := 10) (v := .d (.fn 116 [.el [.fl (.string s)]])) rfl (og rfl (op_mkfn rfl (.cons rfl .nil) rfl)) ?_
  refine rg_put (d := 11) (v := .tu [.ag (eDc ((fnE l s).1)), .fl (.bool ((fnE l s).2))]) rfl (og rfl (op_call rfl Tryz.func115 nm115 rfl (.cons rfl (.d _) (.cons rfl (.d _) .nil)) (firC l s (by have := hl.n; omega)) rfl)) ?_
  refine rg_put (d := 8) (v := .tu [.ag (eDc ((fnE l s).1)), .fl (.bool ((fnE l s).2))]) rfl (og rfl (op_move rfl rfl rfl)) ?_
  refine rg_put (d := 12) (v := .d (.ag (eDc ((fnE l s).1)))) rfl (og rfl (op_extract rfl rfl rfl rfl)) ?_
  refine rg_put (d := 13) (v := .d (.fl (.bool ((fnE l s).2)))) rfl (og rfl (op_extract rfl rfl rfl rfl)) ?_
  refine rg_nam (d := 6) (v := .pt 103 0) (m := 103) (nw := [(103, .bx 77 ([.fl (.string (⟨#[]⟩)), .fl (.string (⟨#[]⟩)), .fl (.int .i64 0), .fl (.int .i64 0), .fl (.slice none 0 0), .fl (.slice none 0 0)]))]) rfl (og rfl (of_eff (s_alloc 103 rfl ti77 (by kernel_rfl) rfl) rfl)) rfl ?_
  refine rg_sto (nw := [(103, .bx 77 ((eDc ((fnE l s).1))))]) rfl (og rfl (of_eff (s_store rfl rfl ti77 rfl rfl rfl rfl rfl rfl) rfl)) ?_
  refine rg_put (d := 7) (v := .d (.fl (.bool ((fnE l s).2)))) rfl (og rfl (op_assign rfl rfl rfl)) ?_
  refine rg_done rfl ?_
  refine a_rseq ?_
  obtain ⟨hf1, hf2, _⟩ := fnE_ok hl s
  refine rg_put (d := 14) (v := .d (.ag (eDc ((fnE l s).1)))) rfl (og rfl (of_eff (s_load_pts rfl Tryz.underlying77 rfl ti77 rfl rfl rfl rfl) rfl)) ?_
  refine rg_put (d := 15) (v := .d (.ag (eDc ((fnE l s).1)))) rfl (og rfl (op_call rfl Tryz.func117 nm117 rfl (.cons rfl (.d _) .nil) (frC ((fnE l s).1) hf1 hf2) rfl)) ?_
  refine rg_put (d := 16) (v := .d (.fl (.bool ((fnE l s).2)))) rfl (og rfl (op_move rfl rfl rfl)) ?_
  refine rg_sto (nw := [(102, .bx 77 ((eDc ((fnE l s).1))))]) rfl (og rfl (of_eff (s_store rfl rfl ti77 rfl rfl rfl rfl rfl rfl) rfl)) ?_
  refine rg_put (d := 5) (v := .d (.fl (.bool ((fnE l s).2)))) rfl (og rfl (op_assign rfl rfl rfl)) ?_
  refine rg_done rfl ?_
  refine a_ret ?_
  show ∃ ds, ResL _ _ _ ds ∧ RV.of ds = _
  refine ⟨[.ag [.fl (.string (((fnE l s).1).name)), .fl (.string (((fnE l s).1).point)), .fl (.int .i64 (((fnE l s).1).kind)), .fl (.int .i64 (((fnE l s).1).lane)), .sl 2 (List.map eOf (((fnE l s).1).offs)), .sl 2 (List.map eIv (((fnE l s).1).down))], .fl (.bool ((fnE l s).2))], (.cons (.cellT rfl rfl Tryz.underlying77 rfl ti77 rfl (Cv.ag (xs := [.fl (.string (((fnE l s).1).name)), .fl (.string (((fnE l s).1).point)), .fl (.int .i64 (((fnE l s).1).kind)), .fl (.int .i64 (((fnE l s).1).lane)), .sl 2 (List.map eOf (((fnE l s).1).offs)), .sl 2 (List.map eIv (((fnE l s).1).down))]) (ys := [.fl (.string (((fnE l s).1).name)), .fl (.string (((fnE l s).1).point)), .fl (.int .i64 (((fnE l s).1).kind)), .fl (.int .i64 (((fnE l s).1).lane)), .sl 2 (List.map eOf (((fnE l s).1).offs)), .sl 2 (List.map eIv (((fnE l s).1).down))]) ⟨Cv.refl _, Cv.refl _, Cv.refl _, Cv.refl _, Cv.refl _, Cv.refl _, trivial⟩)) (.cons (.tmp rfl (.d _)) .nil)), ?_⟩
  rfl
set_option maxHeartbeats 4000000 in
set_option maxRecDepth 100000 in
theorem fndR (l : List Dc) (s : ByteArray) (hl : okL l) : Ctr Tryz.prog 46 [.sl 6 (List.map eDc l), .fl (.string s)] (.tu [.ag (eDc (fnE l s).1), .fl (.bool (fnE l s).2)]) := by
  refine ctr (n := 25) (rs := #[.cell 4 77, .tmp 5]) (L := [(0, .d (.sl 6 (List.map eDc l))), (1, .d (.fl (.string s)))]) Tryz.func46 rfl rfl rfl rfl rfl (fun w0 U0 => ?_)
  refine a_rseq ?_
  refine rg_nam (d := 4) (v := .pt 101 0) (m := 101) (nw := [(101, .bx 77 ([.fl (.string (⟨#[]⟩)), .fl (.string (⟨#[]⟩)), .fl (.int .i64 0), .fl (.int .i64 0), .fl (.slice none 0 0), .fl (.slice none 0 0)]))]) rfl (og rfl (of_eff (s_alloc 101 rfl ti77 (by kernel_rfl) rfl) rfl)) rfl ?_
  refine rg_put (d := 5) (v := .d (.fl (.bool false))) rfl (og rfl (op_assign rfl rfl rfl)) ?_
  refine rg_done rfl ?_
  refine a_seq ?_
  refine a_rseq ?_
  have hln := hl.n
  refine rg_put (d := 6) (v := .d (.fl (.int .i64 0))) rfl (og rfl (op_assign rfl rfl rfl)) ?_
  refine rg_done rfl ?_
  refine a_block ?_
  refine a_loop (ι := Nat) (fun k => SS [(0, .d (.sl 6 (List.map eDc l))), (1, .d (.fl (.string s))), (4, .pt 101 0), (6, .d (.fl (.int .i64 (k : Int))))] [(101, .bx 77 ([.fl (.string (⟨#[]⟩)), .fl (.string (⟨#[]⟩)), .fl (.int .i64 0), .fl (.int .i64 0), .fl (.slice none 0 0), .fl (.slice none 0 0)]))]) (fun k => k ≤ l.length ∧ ∀ q, q < k → (sEq (ix l q).name s) = false) (fun k => l.length - k) 0 (⟨by omega, fun q h => by omega⟩) (imp_forget rfl ⟨rfl, rfl, rfl, (by first | rfl | exact ci (by omega) | exact ci (by simp) | exact cd (by simp) | simp), trivial⟩ ⟨rfl, trivial⟩) (fun k hok => ?_)
  obtain ⟨hkk, hq⟩ := hok
  refine a_seq ?_
  refine a_rseq ?_
  refine rg_put (d := 7) (v := .d (.fl (.int .i64 (k : Int)))) rfl (og rfl (op_move rfl rfl rfl)) ?_
  refine rg_put (d := 8) (v := .d (.sl 6 (List.map eDc l))) rfl (og rfl (op_move rfl rfl rfl)) ?_
  refine rg_put (d := 9) (v := .d (.fl (.int .i64 (l.length : Int)))) rfl (og rfl (s_len rfl Tryz.underlying38 rfl rfl)) ?_
  refine rg_put (d := 10) (v := .d (.fl (.bool ((decide ((k : Int) < (l.length : Int))))))) rfl (og rfl (op_bin rfl rfl rfl (b_lss _ _ _ _) rfl)) ?_
  refine rg_done rfl ?_
  refine a_cond rfl (fun h1 => ?_) (fun h1 => ?_)
  · skip
    have h2 := t_dec h1
    refine a_skip ?_
    show A _ _ _ _ _ _ _
    refine a_seq ?_
    refine a_block ?_
    refine a_rseq ?_
    refine rg_put (d := 13) (v := .d (.sl 6 (List.map eDc l))) rfl (og rfl (op_move rfl rfl rfl)) ?_
    refine rg_put (d := 14) (v := .d (.fl (.int .i64 (k : Int)))) rfl (og rfl (op_move rfl rfl rfl)) ?_
    refine rg_put (d := 15) (v := .el ((eDc (ix l k)))) rfl (og rfl (s_index rfl Tryz.underlying38 ti77 rfl rfl (by omega) (row_at (by omega)) rfl)) ?_
    refine rg_put (d := 16) (v := .el ((List.drop 0 ((eDc (ix l k)))))) rfl (og rfl (of_eff (s_field_el rfl Tryz.underlying77 rfl ti9 rfl rfl rfl) rfl)) ?_
    refine rg_put (d := 17) (v := .d (.fl (.string ((ix l k).name)))) rfl (og rfl (op_load_el rfl Tryz.underlying9 rfl rfl rfl rfl)) ?_
    refine rg_put (d := 18) (v := .d (.fl (.string s))) rfl (og rfl (op_move rfl rfl rfl)) ?_
    refine rg_put (d := 19) (v := .d (.fl (.bool ((sEq ((ix l k).name) s))))) rfl (og rfl (op_bin rfl rfl rfl (b_seq _ _ _) rfl)) ?_
    refine rg_done rfl ?_
    refine a_cond rfl (fun h3 => ?_) (fun h3 => ?_)
    · skip
      refine a_rseq ?_
      refine rg_put (d := 20) (v := .d (.sl 6 (List.map eDc l))) rfl (og rfl (op_move rfl rfl rfl)) ?_
      refine rg_put (d := 21) (v := .d (.fl (.int .i64 (k : Int)))) rfl (og rfl (op_move rfl rfl rfl)) ?_
      refine rg_put (d := 22) (v := .el ((eDc (ix l k)))) rfl (og rfl (s_index rfl Tryz.underlying38 ti77 rfl rfl (by omega) (row_at (by omega)) rfl)) ?_
      refine rg_put (d := 23) (v := .d (.ag (eDc (ix l k)))) rfl (og rfl (of_eff (s_load_els rfl Tryz.underlying77 rfl ti77 rfl rfl rfl) rfl)) ?_
      refine rg_sto (nw := [(101, .bx 77 ((eDc (ix l k))))]) rfl (og rfl (of_eff (s_store rfl rfl ti77 rfl rfl rfl rfl rfl rfl) rfl)) ?_
      refine rg_put (d := 5) (v := .d (.fl (.bool true))) rfl (og rfl (op_assign rfl rfl rfl)) ?_
      refine rg_done rfl ?_
      refine a_ret ?_
      show ∃ ds, ResL _ _ _ ds ∧ RV.of ds = _
      refine ⟨[.ag [.fl (.string ((ix l k).name)), .fl (.string ((ix l k).point)), .fl (.int .i64 ((ix l k).kind)), .fl (.int .i64 ((ix l k).lane)), .sl 2 (List.map eOf ((ix l k).offs)), .sl 2 (List.map eIv ((ix l k).down))], .fl (.bool true)], (.cons (.cellT rfl rfl Tryz.underlying77 rfl ti77 rfl (Cv.ag (xs := [.fl (.string ((ix l k).name)), .fl (.string ((ix l k).point)), .fl (.int .i64 ((ix l k).kind)), .fl (.int .i64 ((ix l k).lane)), .sl 2 (List.map eOf ((ix l k).offs)), .sl 2 (List.map eIv ((ix l k).down))]) (ys := [.fl (.string ((ix l k).name)), .fl (.string ((ix l k).point)), .fl (.int .i64 ((ix l k).kind)), .fl (.int .i64 ((ix l k).lane)), .sl 2 (List.map eOf ((ix l k).offs)), .sl 2 (List.map eIv ((ix l k).down))]) ⟨Cv.refl _, Cv.refl _, Cv.refl _, Cv.refl _, Cv.refl _, Cv.refl _, trivial⟩)) (.cons (.tmp rfl (.d _)) .nil)), ?_⟩
      rw [fnE_at (s := s) (by omega) hq h3]; rfl
    · skip
      refine a_skip ?_
      show A _ _ _ _ _ _ _
      refine a_region ?_
      refine rg_put (d := 11) (v := .d (.fl (.int .i64 (k : Int)))) rfl (og rfl (op_move rfl rfl rfl)) ?_
      refine rg_put (d := 12) (v := .d (.fl (.int .i64 (((k : Int) + 1))))) rfl (og rfl (op_bin rfl rfl rfl (fun x y w => b_add64 _ _ _ x y w (by omega)) rfl)) ?_
      refine rg_put (d := 6) (v := .d (.fl (.int .i64 (((k : Int) + 1))))) rfl (og rfl (op_assign rfl rfl rfl)) ?_
      refine rg_done rfl ?_
      have hx : (sEq (ix l k).name s) = false := h3
      show ∃ i, _ ∧ _ ∧ Imp _ _ _ _ _
      refine ⟨k + 1, ⟨by omega, fun q h => (Nat.lt_succ_iff_lt_or_eq.1 h).elim (hq q) (fun e => by rw [e]; exact hx)⟩, by omega, imp_forget rfl ⟨rfl, rfl, rfl, (by first | rfl | exact ci (by omega) | exact ci (by simp) | exact cd (by simp) | simp), trivial⟩ ⟨rfl, trivial⟩⟩
  · skip
    have h4 := f_dec h1
    refine a_exit ?_
    show A _ _ _ _ _ _ _
    refine a_rseq ?_
    refine rg_put (d := 24) (v := .d (.ag [.fl (.string (⟨#[]⟩)), .fl (.string (⟨#[]⟩)), .fl (.int .i64 0), .fl (.int .i64 0), .fl (.slice none 0 0), .fl (.slice none 0 0)])) rfl (og rfl (of_eff (op_build rfl Tryz.underlying77 ti77 rfl (by kernel_rfl) (by kernel_rfl) (pl := #[(0, 1), (1, 1), (2, 1), (3, 1), (4, 1), (5, 1)]) (by kernel_rfl) .nil rfl) rfl)) ?_
    refine rg_sto (nw := [(101, .bx 77 ([.fl (.string (⟨#[]⟩)), .fl (.string (⟨#[]⟩)), .fl (.int .i64 0), .fl (.int .i64 0), .fl (.slice none 0 0), .fl (.slice none 0 0)]))]) rfl (og rfl (of_eff (s_store rfl rfl ti77 rfl rfl rfl rfl rfl rfl) rfl)) ?_
    refine rg_put (d := 5) (v := .d (.fl (.bool false))) rfl (og rfl (op_assign rfl rfl rfl)) ?_
    refine rg_done rfl ?_
    refine a_ret ?_
    show ∃ ds, ResL _ _ _ ds ∧ RV.of ds = _
    refine ⟨[.ag [.fl (.string (⟨#[]⟩)), .fl (.string (⟨#[]⟩)), .fl (.int .i64 0), .fl (.int .i64 0), .sl 2 (List.map eOf []), .sl 2 (List.map eIv [])], .fl (.bool false)], (.cons (.cellT rfl rfl Tryz.underlying77 rfl ti77 rfl (Cv.ag (xs := [.fl (.string (⟨#[]⟩)), .fl (.string (⟨#[]⟩)), .fl (.int .i64 0), .fl (.int .i64 0), .fl (.slice none 0 0), .fl (.slice none 0 0)]) (ys := [.fl (.string (⟨#[]⟩)), .fl (.string (⟨#[]⟩)), .fl (.int .i64 0), .fl (.int .i64 0), .sl 2 (List.map eOf []), .sl 2 (List.map eIv [])]) ⟨Cv.refl _, Cv.refl _, Cv.refl _, Cv.refl _, Cv.nil _, Cv.nil _, trivial⟩)) (.cons (.tmp rfl (.d _)) .nil)), ?_⟩
    rw [fnE_no (s := s) (fun q h => hq q (by omega))]; rfl
set_option maxHeartbeats 4000000 in
set_option maxRecDepth 100000 in
theorem inC (d : Den) : Ctr Tryz.prog 89 [.ag (eDen d)] (.d (.fl (.bool (inL d)))) := by
  refine ctr (n := 21) (rs := #[.tmp 2]) (L := [(0, .d (.ag (eDen d)))]) Tryz.func89 rfl rfl rfl rfl rfl (fun w0 U0 => ?_)
  refine a_rseq ?_
  refine rg_nam (d := 1) (v := .pt 101 0) (m := 101) (nw := [(101, .bx 40 (eDen d))]) rfl (og rfl (of_eff (op_box 101 rfl rfl rfl rfl) rfl)) rfl ?_
  refine rg_put (d := 2) (v := .d (.fl (.bool false))) rfl (og rfl (op_assign rfl rfl rfl)) ?_
  refine rg_done rfl ?_
  refine a_rseq ?_
  refine rg_put (d := 3) (v := .pt 101 1) rfl (og rfl (of_eff (s_field_pt rfl Tryz.underlying40 rfl ti3 rfl rfl rfl) rfl)) ?_
  refine rg_put (d := 4) (v := .d (.fl (.int .i64 d.seq))) rfl (og rfl (op_load_pt rfl Tryz.underlying3 rfl rfl rfl rfl rfl)) ?_
  refine rg_put (d := 5) (v := .d (.fl (.bool ((decide (0 ≤ d.seq)))))) rfl (og rfl (op_bin rfl rfl rfl (b_leq _ _ _ _) rfl)) ?_
  refine rg_put (d := 6) (v := .d (.fl (.bool ((decide (0 ≤ d.seq)))))) rfl (og rfl (op_move rfl rfl rfl)) ?_
  rcases fot ((decide (0 ≤ d.seq))) with h1 | h1
  · skip
    have h2 := f_dec h1
    refine rg_put (d := 7) (v := .d (.fl undef)) rfl (on rfl rfl rfl h1) ?_
    refine rg_put (d := 8) (v := .d (.fl undef)) rfl (on rfl rfl rfl h1) ?_
    refine rg_put (d := 9) (v := .d (.fl undef)) rfl (on rfl rfl rfl h1) ?_
    refine rg_put (d := 10) (v := .d (.fl (.bool false))) rfl (og rfl (op_pick rfl rfl (by rw [h1]; rfl) rfl)) ?_
    refine rg_put (d := 11) (v := .d (.fl (.bool false))) rfl (og rfl (op_move rfl rfl rfl)) ?_
    refine rg_put (d := 12) (v := .d (.fl undef)) rfl (on rfl rfl rfl rfl) ?_
    refine rg_put (d := 13) (v := .d (.fl undef)) rfl (on rfl rfl rfl rfl) ?_
    refine rg_put (d := 14) (v := .d (.fl undef)) rfl (on rfl rfl rfl rfl) ?_
    refine rg_put (d := 15) (v := .d (.fl (.bool false))) rfl (og rfl (op_pick rfl rfl rfl rfl)) ?_
    refine rg_put (d := 16) (v := .d (.fl (.bool false))) rfl (og rfl (op_move rfl rfl rfl)) ?_
    refine rg_put (d := 17) (v := .d (.fl undef)) rfl (on rfl rfl rfl rfl) ?_
    refine rg_put (d := 18) (v := .d (.fl undef)) rfl (on rfl rfl rfl rfl) ?_
    refine rg_put (d := 19) (v := .d (.fl undef)) rfl (on rfl rfl rfl rfl) ?_
    refine rg_put (d := 20) (v := .d (.fl (.bool false))) rfl (og rfl (op_pick rfl rfl rfl rfl)) ?_
    refine rg_put (d := 2) (v := .d (.fl (.bool false))) rfl (og rfl (op_assign rfl rfl rfl)) ?_
    refine rg_done rfl ?_
    refine a_ret ?_
    show ∃ ds, ResL _ _ _ ds ∧ RV.of ds = _
    refine ⟨[.fl (.bool false)], (.cons (.tmp rfl (.d _)) .nil), ?_⟩
    first
      | (have hu : inL d = false := by
          unfold inL; simp only [h1, Bool.true_or, Bool.false_or, Bool.or_true, Bool.or_false, Bool.not_true, Bool.not_false, cond_true, cond_false, Bool.true_and, Bool.false_and, Bool.and_true, Bool.and_false] <;> rfl
         rw [hu]; rfl)
      | (exfalso; omega)
  · skip
    have h3 := t_dec h1
    refine rg_put (d := 7) (v := .pt 101 1) rfl (oy rfl rfl rfl h1 (of_eff (s_field_pt rfl Tryz.underlying40 rfl ti3 rfl rfl rfl) rfl)) ?_
    refine rg_put (d := 8) (v := .d (.fl (.int .i64 d.seq))) rfl (oy rfl rfl rfl h1 (op_load_pt rfl Tryz.underlying3 rfl rfl rfl rfl rfl)) ?_
    refine rg_put (d := 9) (v := .d (.fl (.bool ((decide (d.seq ≤ 2147483648)))))) rfl (oy rfl rfl rfl h1 (op_bin rfl rfl rfl (b_leq _ _ _ _) rfl)) ?_
    refine rg_put (d := 10) (v := .d (.fl (.bool ((decide (d.seq ≤ 2147483648)))))) rfl (og rfl (op_pick rfl rfl (by rw [h1]; rfl) rfl)) ?_
    refine rg_put (d := 11) (v := .d (.fl (.bool ((decide (d.seq ≤ 2147483648)))))) rfl (og rfl (op_move rfl rfl rfl)) ?_
    rcases fot ((decide (d.seq ≤ 2147483648))) with h4 | h4
    · skip
      have h5 := f_dec h4
      refine rg_put (d := 12) (v := .d (.fl undef)) rfl (on rfl rfl rfl h4) ?_
      refine rg_put (d := 13) (v := .d (.fl undef)) rfl (on rfl rfl rfl h4) ?_
      refine rg_put (d := 14) (v := .d (.fl undef)) rfl (on rfl rfl rfl h4) ?_
      refine rg_put (d := 15) (v := .d (.fl (.bool false))) rfl (og rfl (op_pick rfl rfl (by rw [h4]; rfl) rfl)) ?_
      refine rg_put (d := 16) (v := .d (.fl (.bool false))) rfl (og rfl (op_move rfl rfl rfl)) ?_
      refine rg_put (d := 17) (v := .d (.fl undef)) rfl (on rfl rfl rfl rfl) ?_
      refine rg_put (d := 18) (v := .d (.fl undef)) rfl (on rfl rfl rfl rfl) ?_
      refine rg_put (d := 19) (v := .d (.fl undef)) rfl (on rfl rfl rfl rfl) ?_
      refine rg_put (d := 20) (v := .d (.fl (.bool false))) rfl (og rfl (op_pick rfl rfl rfl rfl)) ?_
      refine rg_put (d := 2) (v := .d (.fl (.bool false))) rfl (og rfl (op_assign rfl rfl rfl)) ?_
      refine rg_done rfl ?_
      refine a_ret ?_
      show ∃ ds, ResL _ _ _ ds ∧ RV.of ds = _
      refine ⟨[.fl (.bool false)], (.cons (.tmp rfl (.d _)) .nil), ?_⟩
      first
        | (have hu : inL d = false := by
            unfold inL; simp only [h1, h4, Bool.true_or, Bool.false_or, Bool.or_true, Bool.or_false, Bool.not_true, Bool.not_false, cond_true, cond_false, Bool.true_and, Bool.false_and, Bool.and_true, Bool.and_false] <;> rfl
           rw [hu]; rfl)
        | (exfalso; omega)
    · skip
      have h6 := t_dec h4
      refine rg_put (d := 12) (v := .pt 101 6) rfl (oy rfl rfl rfl h4 (of_eff (s_field_pt rfl Tryz.underlying40 rfl ti3 rfl rfl rfl) rfl)) ?_
      refine rg_put (d := 13) (v := .d (.fl (.int .i64 d.score))) rfl (oy rfl rfl rfl h4 (op_load_pt rfl Tryz.underlying3 rfl rfl rfl rfl rfl)) ?_
      refine rg_put (d := 14) (v := .d (.fl (.bool ((decide (0 ≤ d.score)))))) rfl (oy rfl rfl rfl h4 (op_bin rfl rfl rfl (b_leq _ _ _ _) rfl)) ?_
      refine rg_put (d := 15) (v := .d (.fl (.bool ((decide (0 ≤ d.score)))))) rfl (og rfl (op_pick rfl rfl (by rw [h4]; rfl) rfl)) ?_
      refine rg_put (d := 16) (v := .d (.fl (.bool ((decide (0 ≤ d.score)))))) rfl (og rfl (op_move rfl rfl rfl)) ?_
      rcases fot ((decide (0 ≤ d.score))) with h7 | h7
      · skip
        have h8 := f_dec h7
        refine rg_put (d := 17) (v := .d (.fl undef)) rfl (on rfl rfl rfl h7) ?_
        refine rg_put (d := 18) (v := .d (.fl undef)) rfl (on rfl rfl rfl h7) ?_
        refine rg_put (d := 19) (v := .d (.fl undef)) rfl (on rfl rfl rfl h7) ?_
        refine rg_put (d := 20) (v := .d (.fl (.bool false))) rfl (og rfl (op_pick rfl rfl (by rw [h7]; rfl) rfl)) ?_
        refine rg_put (d := 2) (v := .d (.fl (.bool false))) rfl (og rfl (op_assign rfl rfl rfl)) ?_
        refine rg_done rfl ?_
        refine a_ret ?_
        show ∃ ds, ResL _ _ _ ds ∧ RV.of ds = _
        refine ⟨[.fl (.bool false)], (.cons (.tmp rfl (.d _)) .nil), ?_⟩
        first
          | (have hu : inL d = false := by
              unfold inL; simp only [h1, h4, h7, Bool.true_or, Bool.false_or, Bool.or_true, Bool.or_false, Bool.not_true, Bool.not_false, cond_true, cond_false, Bool.true_and, Bool.false_and, Bool.and_true, Bool.and_false] <;> rfl
             rw [hu]; rfl)
          | (exfalso; omega)
      · skip
        have h9 := t_dec h7
        refine rg_put (d := 17) (v := .pt 101 6) rfl (oy rfl rfl rfl h7 (of_eff (s_field_pt rfl Tryz.underlying40 rfl ti3 rfl rfl rfl) rfl)) ?_
        refine rg_put (d := 18) (v := .d (.fl (.int .i64 d.score))) rfl (oy rfl rfl rfl h7 (op_load_pt rfl Tryz.underlying3 rfl rfl rfl rfl rfl)) ?_
        refine rg_put (d := 19) (v := .d (.fl (.bool ((decide (d.score ≤ 1000)))))) rfl (oy rfl rfl rfl h7 (op_bin rfl rfl rfl (b_leq _ _ _ _) rfl)) ?_
        refine rg_put (d := 20) (v := .d (.fl (.bool ((decide (d.score ≤ 1000)))))) rfl (og rfl (op_pick rfl rfl (by rw [h7]; rfl) rfl)) ?_
        refine rg_put (d := 2) (v := .d (.fl (.bool ((decide (d.score ≤ 1000)))))) rfl (og rfl (op_assign rfl rfl rfl)) ?_
        refine rg_done rfl ?_
        refine a_ret ?_
        show ∃ ds, ResL _ _ _ ds ∧ RV.of ds = _
        refine ⟨[.fl (.bool ((decide (d.score ≤ 1000))))], (.cons (.tmp rfl (.d _)) .nil), ?_⟩
        first
          | (have hu : inL d = (decide (d.score ≤ 1000)) := by
              unfold inL; simp only [h1, h4, h7, Bool.true_or, Bool.false_or, Bool.or_true, Bool.or_false, Bool.not_true, Bool.not_false, cond_true, cond_false, Bool.true_and, Bool.false_and, Bool.and_true, Bool.and_false] <;> rfl
             rw [hu]; rfl)
          | (exfalso; omega)
set_option maxHeartbeats 4000000 in
set_option maxRecDepth 100000 in
theorem fitC (k : Int) (d : Den) (hp : d.plate.size ≤ 100000) : CtrK Tryz.prog KK 90 [.fl (.int .i64 k), .ag (eDen d)] (.d (.fl (.bool (fit k d)))) := by
  refine ctrK (n := 70) (rs := #[.tmp 4]) (L := [(0, .d (.fl (.int .i64 k))), (1, .d (.ag (eDen d)))]) Tryz.func90 rfl rfl rfl rfl rfl (fun w0 U0 hG => ?_)
  refine a_rseq ?_
  refine rg_nam (d := 3) (v := .pt 101 0) (m := 101) (nw := [(101, .bx 40 (eDen d))]) rfl (og rfl (of_eff (op_box 101 rfl rfl rfl rfl) rfl)) rfl ?_
  refine rg_put (d := 4) (v := .d (.fl (.bool false))) rfl (og rfl (op_assign rfl rfl rfl)) ?_
  refine rg_done rfl ?_
  refine a_seq ?_
  refine a_rseq ?_
  refine rg_put (d := 7) (v := .d (.fl (.int .i64 k))) rfl (og rfl (op_move rfl rfl rfl)) ?_
  refine rg_done rfl ?_
  refine a_block ?_
  refine a_rseq ?_
  refine rg_put (d := 9) (v := .d (.fl (.bool (k == 1)))) rfl (og rfl (op_bin rfl rfl rfl (b_eql _ _ _ _) rfl)) ?_
  refine rg_put (d := 8) (v := .d (.fl (.bool (k == 1)))) rfl (og rfl (op_assign rfl rfl rfl)) ?_
  refine rg_done rfl ?_
  refine a_cond rfl (fun h1 => ?_) (fun h1 => ?_)
  · skip
    have h2 := t_beq h1
    refine a_rseq ?_
    refine rg_put (d := 10) (v := .pt 101 3) rfl (og rfl (of_eff (s_field_pt rfl Tryz.underlying40 rfl ti9 rfl rfl rfl) rfl)) ?_
    refine rg_put (d := 11) (v := .d (.fl (.string d.tag))) rfl (og rfl (op_load_pt rfl Tryz.underlying9 rfl rfl rfl rfl rfl)) ?_
    refine rg_put (d := 12) (v := .d (.fl (.int .i64 (Tm.ck d.tag)))) rfl (og rfl (op_call rfl Tryz.func27 nm27 rfl (.cons rfl (.d _) .nil) (tagC27 d.tag) rfl)) ?_
    refine rg_put (d := 13) (v := .d (.fl (.bool (((Tm.ck d.tag) == 0))))) rfl (og rfl (op_bin rfl rfl rfl (b_eql _ _ _ _) rfl)) ?_
    refine rg_put (d := 14) (v := .d (.fl (.bool (((Tm.ck d.tag) == 0))))) rfl (og rfl (op_move rfl rfl rfl)) ?_
    rcases fot (((Tm.ck d.tag) == 0)) with h3 | h3
    · skip
      have h4 := f_beq h3
      refine rg_put (d := 15) (v := .d (.fl undef)) rfl (on rfl rfl rfl h3) ?_
      refine rg_put (d := 16) (v := .d (.fl undef)) rfl (on rfl rfl rfl h3) ?_
      refine rg_put (d := 17) (v := .d (.fl undef)) rfl (on rfl rfl rfl h3) ?_
      refine rg_put (d := 18) (v := .d (.fl (.bool false))) rfl (og rfl (op_pick rfl rfl (by rw [h3]; rfl) rfl)) ?_
      refine rg_put (d := 19) (v := .d (.fl (.bool false))) rfl (og rfl (op_move rfl rfl rfl)) ?_
      refine rg_put (d := 20) (v := .d (.fl undef)) rfl (on rfl rfl rfl rfl) ?_
      refine rg_put (d := 21) (v := .d (.fl undef)) rfl (on rfl rfl rfl rfl) ?_
      refine rg_put (d := 22) (v := .d (.fl undef)) rfl (on rfl rfl rfl rfl) ?_
      refine rg_put (d := 23) (v := .d (.fl (.bool false))) rfl (og rfl (op_pick rfl rfl rfl rfl)) ?_
      refine rg_put (d := 4) (v := .d (.fl (.bool false))) rfl (og rfl (op_assign rfl rfl rfl)) ?_
      refine rg_done rfl ?_
      refine a_ret ?_
      show ∃ ds, ResL _ _ _ ds ∧ RV.of ds = _
      refine ⟨[.fl (.bool false)], (.cons (.tmp rfl (.d _)) .nil), ?_⟩
      first
        | (have hu : fit k d = false := by
            unfold fit nrmB; simp only [h1, h3, Bool.true_or, Bool.false_or, Bool.or_true, Bool.or_false, Bool.not_true, Bool.not_false, cond_true, cond_false, Bool.true_and, Bool.false_and, Bool.and_true, Bool.and_false] <;> rfl
           rw [hu]; rfl)
        | (exfalso; omega)
    · skip
      have h5 := t_beq h3
      refine rg_put (d := 15) (v := .pt 101 4) rfl (oy rfl rfl rfl h3 (of_eff (s_field_pt rfl Tryz.underlying40 rfl ti9 rfl rfl rfl) rfl)) ?_
      refine rg_put (d := 16) (v := .d (.fl (.string d.plate))) rfl (oy rfl rfl rfl h3 (op_load_pt rfl Tryz.underlying9 rfl rfl rfl rfl rfl)) ?_
      refine rg_put (d := 17) (v := .d (.fl (.bool ((sEq d.plate (⟨#[]⟩)))))) rfl (oy rfl rfl rfl h3 (op_bin rfl rfl rfl (b_seq _ _ _) rfl)) ?_
      refine rg_put (d := 18) (v := .d (.fl (.bool ((sEq d.plate (⟨#[]⟩)))))) rfl (og rfl (op_pick rfl rfl (by rw [h3]; rfl) rfl)) ?_
      refine rg_put (d := 19) (v := .d (.fl (.bool ((sEq d.plate (⟨#[]⟩)))))) rfl (og rfl (op_move rfl rfl rfl)) ?_
      rcases fot ((sEq d.plate (⟨#[]⟩))) with h6 | h6
      · skip
        refine rg_put (d := 20) (v := .d (.fl undef)) rfl (on rfl rfl rfl h6) ?_
        refine rg_put (d := 21) (v := .d (.fl undef)) rfl (on rfl rfl rfl h6) ?_
        refine rg_put (d := 22) (v := .d (.fl undef)) rfl (on rfl rfl rfl h6) ?_
        refine rg_put (d := 23) (v := .d (.fl (.bool false))) rfl (og rfl (op_pick rfl rfl (by rw [h6]; rfl) rfl)) ?_
        refine rg_put (d := 4) (v := .d (.fl (.bool false))) rfl (og rfl (op_assign rfl rfl rfl)) ?_
        refine rg_done rfl ?_
        refine a_ret ?_
        show ∃ ds, ResL _ _ _ ds ∧ RV.of ds = _
        refine ⟨[.fl (.bool false)], (.cons (.tmp rfl (.d _)) .nil), ?_⟩
        first
          | (have hu : fit k d = false := by
              unfold fit nrmB; simp only [h1, h3, h6, Bool.true_or, Bool.false_or, Bool.or_true, Bool.or_false, Bool.not_true, Bool.not_false, cond_true, cond_false, Bool.true_and, Bool.false_and, Bool.and_true, Bool.and_false] <;> rfl
             rw [hu]; rfl)
          | (exfalso; omega)
      · skip
        refine rg_put (d := 20) (v := .pt 101 5) rfl (oy rfl rfl rfl h6 (of_eff (s_field_pt rfl Tryz.underlying40 rfl ti3 rfl rfl rfl) rfl)) ?_
        refine rg_put (d := 21) (v := .d (.fl (.int .i64 d.axl))) rfl (oy rfl rfl rfl h6 (op_load_pt rfl Tryz.underlying3 rfl rfl rfl rfl rfl)) ?_
        refine rg_put (d := 22) (v := .d (.fl (.bool (d.axl == 0)))) rfl (oy rfl rfl rfl h6 (op_bin rfl rfl rfl (b_eql _ _ _ _) rfl)) ?_
        refine rg_put (d := 23) (v := .d (.fl (.bool (d.axl == 0)))) rfl (og rfl (op_pick rfl rfl (by rw [h6]; rfl) rfl)) ?_
        refine rg_put (d := 4) (v := .d (.fl (.bool (d.axl == 0)))) rfl (og rfl (op_assign rfl rfl rfl)) ?_
        refine rg_done rfl ?_
        refine a_ret ?_
        show ∃ ds, ResL _ _ _ ds ∧ RV.of ds = _
        refine ⟨[.fl (.bool (d.axl == 0))], (.cons (.tmp rfl (.d _)) .nil), ?_⟩
        first
          | (have hu : fit k d = (d.axl == 0) := by
              unfold fit nrmB; simp only [h1, h3, h6, Bool.true_or, Bool.false_or, Bool.or_true, Bool.or_false, Bool.not_true, Bool.not_false, cond_true, cond_false, Bool.true_and, Bool.false_and, Bool.and_true, Bool.and_false] <;> rfl
             rw [hu]; rfl)
          | (exfalso; omega)
  · skip
    have h7 := f_beq h1
    refine a_rseq ?_
    refine rg_put (d := 25) (v := .d (.fl (.bool (k == 2)))) rfl (og rfl (op_bin rfl rfl rfl (b_eql _ _ _ _) rfl)) ?_
    refine rg_put (d := 24) (v := .d (.fl (.bool (k == 2)))) rfl (og rfl (op_assign rfl rfl rfl)) ?_
    refine rg_done rfl ?_
    refine a_cond rfl (fun h8 => ?_) (fun h8 => ?_)
    · skip
      have h9 := t_beq h8
      refine a_rseq ?_
      refine rg_put (d := 27) (v := .pt 101 4) rfl (og rfl (of_eff (s_field_pt rfl Tryz.underlying40 rfl ti9 rfl rfl rfl) rfl)) ?_
      refine rg_put (d := 28) (v := .d (.fl (.string d.plate))) rfl (og rfl (op_load_pt rfl Tryz.underlying9 rfl rfl rfl rfl rfl)) ?_
      refine rg_put (d := 29) (v := .tu [.fl (.string (nmS d.plate)), .fl (.int .i64 (nmI d.plate))]) rfl (og rfl (op_callK kkst hG rfl Tryz.func64 nm64 rfl (.cons rfl (.d _) .nil) ((norC d.plate (by omega))) rfl)) ?_
      refine rg_put (d := 26) (v := .tu [.fl (.string (nmS d.plate)), .fl (.int .i64 (nmI d.plate))]) rfl (og rfl (op_move rfl rfl rfl)) ?_
      refine rg_put (d := 30) (v := .d (.fl (.string (nmS d.plate)))) rfl (og rfl (op_extract rfl rfl rfl rfl)) ?_
      refine rg_put (d := 31) (v := .d (.fl (.int .i64 (nmI d.plate)))) rfl (og rfl (op_extract rfl rfl rfl rfl)) ?_
      refine rg_put (d := 5) (v := .d (.fl (.string (nmS d.plate)))) rfl (og rfl (op_assign rfl rfl rfl)) ?_
      refine rg_put (d := 6) (v := .d (.fl (.int .i64 (nmI d.plate)))) rfl (og rfl (op_assign rfl rfl rfl)) ?_
      refine rg_done rfl ?_
      refine a_rseq ?_
      refine rg_put (d := 32) (v := .d (.fl (.int .i64 (nmI d.plate)))) rfl (og rfl (op_move rfl rfl rfl)) ?_
      refine rg_put (d := 33) (v := .d (.fl (.bool (((nmI d.plate) == 0))))) rfl (og rfl (op_bin rfl rfl rfl (b_eql _ _ _ _) rfl)) ?_
      refine rg_put (d := 34) (v := .d (.fl (.bool (((nmI d.plate) == 0))))) rfl (og rfl (op_move rfl rfl rfl)) ?_
      rcases fot (((nmI d.plate) == 0)) with h10 | h10
      · skip
        have h11 := f_beq h10
        refine rg_put (d := 35) (v := .d (.fl undef)) rfl (on rfl rfl rfl h10) ?_
        refine rg_put (d := 36) (v := .d (.fl undef)) rfl (on rfl rfl rfl h10) ?_
        refine rg_put (d := 37) (v := .d (.fl undef)) rfl (on rfl rfl rfl h10) ?_
        refine rg_put (d := 38) (v := .d (.fl undef)) rfl (on rfl rfl rfl h10) ?_
        refine rg_put (d := 39) (v := .d (.fl (.bool false))) rfl (og rfl (op_pick rfl rfl (by rw [h10]; rfl) rfl)) ?_
        refine rg_put (d := 40) (v := .d (.fl (.bool false))) rfl (og rfl (op_move rfl rfl rfl)) ?_
        refine rg_put (d := 41) (v := .d (.fl undef)) rfl (on rfl rfl rfl rfl) ?_
        refine rg_put (d := 42) (v := .d (.fl undef)) rfl (on rfl rfl rfl rfl) ?_
        refine rg_put (d := 43) (v := .d (.fl undef)) rfl (on rfl rfl rfl rfl) ?_
        refine rg_put (d := 44) (v := .d (.fl (.bool false))) rfl (og rfl (op_pick rfl rfl rfl rfl)) ?_
        refine rg_put (d := 45) (v := .d (.fl (.bool false))) rfl (og rfl (op_move rfl rfl rfl)) ?_
        refine rg_put (d := 46) (v := .d (.fl undef)) rfl (on rfl rfl rfl rfl) ?_
        refine rg_put (d := 47) (v := .d (.fl undef)) rfl (on rfl rfl rfl rfl) ?_
        refine rg_put (d := 48) (v := .d (.fl undef)) rfl (on rfl rfl rfl rfl) ?_
        refine rg_put (d := 49) (v := .d (.fl (.bool false))) rfl (og rfl (op_pick rfl rfl rfl rfl)) ?_
        refine rg_put (d := 4) (v := .d (.fl (.bool false))) rfl (og rfl (op_assign rfl rfl rfl)) ?_
        refine rg_done rfl ?_
        refine a_ret ?_
        show ∃ ds, ResL _ _ _ ds ∧ RV.of ds = _
        refine ⟨[.fl (.bool false)], (.cons (.tmp rfl (.d _)) .nil), ?_⟩
        first
          | (have hu : fit k d = false := by
              unfold fit nrmB; simp only [h1, h8, h10, Bool.true_or, Bool.false_or, Bool.or_true, Bool.or_false, Bool.not_true, Bool.not_false, cond_true, cond_false, Bool.true_and, Bool.false_and, Bool.and_true, Bool.and_false] <;> rfl
             rw [hu]; rfl)
          | (exfalso; omega)
      · skip
        have h12 := t_beq h10
        refine rg_put (d := 35) (v := .d (.fl (.string (nmS d.plate)))) rfl (oy rfl rfl rfl h10 (op_move rfl rfl rfl)) ?_
        refine rg_put (d := 36) (v := .pt 101 4) rfl (oy rfl rfl rfl h10 (of_eff (s_field_pt rfl Tryz.underlying40 rfl ti9 rfl rfl rfl) rfl)) ?_
        refine rg_put (d := 37) (v := .d (.fl (.string d.plate))) rfl (oy rfl rfl rfl h10 (op_load_pt rfl Tryz.underlying9 rfl rfl rfl rfl rfl)) ?_
        refine rg_put (d := 38) (v := .d (.fl (.bool ((sEq (nmS d.plate) d.plate))))) rfl (oy rfl rfl rfl h10 (op_bin rfl rfl rfl (b_seq _ _ _) rfl)) ?_
        refine rg_put (d := 39) (v := .d (.fl (.bool ((sEq (nmS d.plate) d.plate))))) rfl (og rfl (op_pick rfl rfl (by rw [h10]; rfl) rfl)) ?_
        refine rg_put (d := 40) (v := .d (.fl (.bool ((sEq (nmS d.plate) d.plate))))) rfl (og rfl (op_move rfl rfl rfl)) ?_
        rcases fot ((sEq (nmS d.plate) d.plate)) with h13 | h13
        · skip
          refine rg_put (d := 41) (v := .d (.fl undef)) rfl (on rfl rfl rfl h13) ?_
          refine rg_put (d := 42) (v := .d (.fl undef)) rfl (on rfl rfl rfl h13) ?_
          refine rg_put (d := 43) (v := .d (.fl undef)) rfl (on rfl rfl rfl h13) ?_
          refine rg_put (d := 44) (v := .d (.fl (.bool false))) rfl (og rfl (op_pick rfl rfl (by rw [h13]; rfl) rfl)) ?_
          refine rg_put (d := 45) (v := .d (.fl (.bool false))) rfl (og rfl (op_move rfl rfl rfl)) ?_
          refine rg_put (d := 46) (v := .d (.fl undef)) rfl (on rfl rfl rfl rfl) ?_
          refine rg_put (d := 47) (v := .d (.fl undef)) rfl (on rfl rfl rfl rfl) ?_
          refine rg_put (d := 48) (v := .d (.fl undef)) rfl (on rfl rfl rfl rfl) ?_
          refine rg_put (d := 49) (v := .d (.fl (.bool false))) rfl (og rfl (op_pick rfl rfl rfl rfl)) ?_
          refine rg_put (d := 4) (v := .d (.fl (.bool false))) rfl (og rfl (op_assign rfl rfl rfl)) ?_
          refine rg_done rfl ?_
          refine a_ret ?_
          show ∃ ds, ResL _ _ _ ds ∧ RV.of ds = _
          refine ⟨[.fl (.bool false)], (.cons (.tmp rfl (.d _)) .nil), ?_⟩
          first
            | (have hu : fit k d = false := by
                unfold fit nrmB; simp only [h1, h8, h10, h13, Bool.true_or, Bool.false_or, Bool.or_true, Bool.or_false, Bool.not_true, Bool.not_false, cond_true, cond_false, Bool.true_and, Bool.false_and, Bool.and_true, Bool.and_false] <;> rfl
               rw [hu]; rfl)
            | (exfalso; omega)
        · skip
          refine rg_put (d := 41) (v := .pt 101 3) rfl (oy rfl rfl rfl h13 (of_eff (s_field_pt rfl Tryz.underlying40 rfl ti9 rfl rfl rfl) rfl)) ?_
          refine rg_put (d := 42) (v := .d (.fl (.string d.tag))) rfl (oy rfl rfl rfl h13 (op_load_pt rfl Tryz.underlying9 rfl rfl rfl rfl rfl)) ?_
          refine rg_put (d := 43) (v := .d (.fl (.bool ((sEq d.tag (⟨#[]⟩)))))) rfl (oy rfl rfl rfl h13 (op_bin rfl rfl rfl (b_seq _ _ _) rfl)) ?_
          refine rg_put (d := 44) (v := .d (.fl (.bool ((sEq d.tag (⟨#[]⟩)))))) rfl (og rfl (op_pick rfl rfl (by rw [h13]; rfl) rfl)) ?_
          refine rg_put (d := 45) (v := .d (.fl (.bool ((sEq d.tag (⟨#[]⟩)))))) rfl (og rfl (op_move rfl rfl rfl)) ?_
          rcases fot ((sEq d.tag (⟨#[]⟩))) with h14 | h14
          · skip
            refine rg_put (d := 46) (v := .d (.fl undef)) rfl (on rfl rfl rfl h14) ?_
            refine rg_put (d := 47) (v := .d (.fl undef)) rfl (on rfl rfl rfl h14) ?_
            refine rg_put (d := 48) (v := .d (.fl undef)) rfl (on rfl rfl rfl h14) ?_
            refine rg_put (d := 49) (v := .d (.fl (.bool false))) rfl (og rfl (op_pick rfl rfl (by rw [h14]; rfl) rfl)) ?_
            refine rg_put (d := 4) (v := .d (.fl (.bool false))) rfl (og rfl (op_assign rfl rfl rfl)) ?_
            refine rg_done rfl ?_
            refine a_ret ?_
            show ∃ ds, ResL _ _ _ ds ∧ RV.of ds = _
            refine ⟨[.fl (.bool false)], (.cons (.tmp rfl (.d _)) .nil), ?_⟩
            first
              | (have hu : fit k d = false := by
                  unfold fit nrmB; simp only [h1, h8, h10, h13, h14, Bool.true_or, Bool.false_or, Bool.or_true, Bool.or_false, Bool.not_true, Bool.not_false, cond_true, cond_false, Bool.true_and, Bool.false_and, Bool.and_true, Bool.and_false] <;> rfl
                 rw [hu]; rfl)
              | (exfalso; omega)
          · skip
            refine rg_put (d := 46) (v := .pt 101 5) rfl (oy rfl rfl rfl h14 (of_eff (s_field_pt rfl Tryz.underlying40 rfl ti3 rfl rfl rfl) rfl)) ?_
            refine rg_put (d := 47) (v := .d (.fl (.int .i64 d.axl))) rfl (oy rfl rfl rfl h14 (op_load_pt rfl Tryz.underlying3 rfl rfl rfl rfl rfl)) ?_
            refine rg_put (d := 48) (v := .d (.fl (.bool (d.axl == 0)))) rfl (oy rfl rfl rfl h14 (op_bin rfl rfl rfl (b_eql _ _ _ _) rfl)) ?_
            refine rg_put (d := 49) (v := .d (.fl (.bool (d.axl == 0)))) rfl (og rfl (op_pick rfl rfl (by rw [h14]; rfl) rfl)) ?_
            refine rg_put (d := 4) (v := .d (.fl (.bool (d.axl == 0)))) rfl (og rfl (op_assign rfl rfl rfl)) ?_
            refine rg_done rfl ?_
            refine a_ret ?_
            show ∃ ds, ResL _ _ _ ds ∧ RV.of ds = _
            refine ⟨[.fl (.bool (d.axl == 0))], (.cons (.tmp rfl (.d _)) .nil), ?_⟩
            first
              | (have hu : fit k d = (d.axl == 0) := by
                  unfold fit nrmB; simp only [h1, h8, h10, h13, h14, Bool.true_or, Bool.false_or, Bool.or_true, Bool.or_false, Bool.not_true, Bool.not_false, cond_true, cond_false, Bool.true_and, Bool.false_and, Bool.and_true, Bool.and_false] <;> rfl
                 rw [hu]; rfl)
              | (exfalso; omega)
    · skip
      have h15 := f_beq h8
      refine a_rseq ?_
      refine rg_put (d := 51) (v := .d (.fl (.bool (k == 3)))) rfl (og rfl (op_bin rfl rfl rfl (b_eql _ _ _ _) rfl)) ?_
      refine rg_put (d := 50) (v := .d (.fl (.bool (k == 3)))) rfl (og rfl (op_assign rfl rfl rfl)) ?_
      refine rg_done rfl ?_
      refine a_cond rfl (fun h16 => ?_) (fun h16 => ?_)
      · skip
        have h17 := t_beq h16
        refine a_rseq ?_
        refine rg_put (d := 52) (v := .pt 101 5) rfl (og rfl (of_eff (s_field_pt rfl Tryz.underlying40 rfl ti3 rfl rfl rfl) rfl)) ?_
        refine rg_put (d := 53) (v := .d (.fl (.int .i64 d.axl))) rfl (og rfl (op_load_pt rfl Tryz.underlying3 rfl rfl rfl rfl rfl)) ?_
        refine rg_put (d := 54) (v := .d (.fl (.bool ((decide (1 ≤ d.axl)))))) rfl (og rfl (op_bin rfl rfl rfl (b_leq _ _ _ _) rfl)) ?_
        refine rg_put (d := 55) (v := .d (.fl (.bool ((decide (1 ≤ d.axl)))))) rfl (og rfl (op_move rfl rfl rfl)) ?_
        rcases fot ((decide (1 ≤ d.axl))) with h18 | h18
        · skip
          have h19 := f_dec h18
          refine rg_put (d := 56) (v := .d (.fl undef)) rfl (on rfl rfl rfl h18) ?_
          refine rg_put (d := 57) (v := .d (.fl undef)) rfl (on rfl rfl rfl h18) ?_
          refine rg_put (d := 58) (v := .d (.fl undef)) rfl (on rfl rfl rfl h18) ?_
          refine rg_put (d := 59) (v := .d (.fl (.bool false))) rfl (og rfl (op_pick rfl rfl (by rw [h18]; rfl) rfl)) ?_
          refine rg_put (d := 60) (v := .d (.fl (.bool false))) rfl (og rfl (op_move rfl rfl rfl)) ?_
          refine rg_put (d := 61) (v := .d (.fl undef)) rfl (on rfl rfl rfl rfl) ?_
          refine rg_put (d := 62) (v := .d (.fl undef)) rfl (on rfl rfl rfl rfl) ?_
          refine rg_put (d := 63) (v := .d (.fl undef)) rfl (on rfl rfl rfl rfl) ?_
          refine rg_put (d := 64) (v := .d (.fl (.bool false))) rfl (og rfl (op_pick rfl rfl rfl rfl)) ?_
          refine rg_put (d := 65) (v := .d (.fl (.bool false))) rfl (og rfl (op_move rfl rfl rfl)) ?_
          refine rg_put (d := 66) (v := .d (.fl undef)) rfl (on rfl rfl rfl rfl) ?_
          refine rg_put (d := 67) (v := .d (.fl undef)) rfl (on rfl rfl rfl rfl) ?_
          refine rg_put (d := 68) (v := .d (.fl undef)) rfl (on rfl rfl rfl rfl) ?_
          refine rg_put (d := 69) (v := .d (.fl (.bool false))) rfl (og rfl (op_pick rfl rfl rfl rfl)) ?_
          refine rg_put (d := 4) (v := .d (.fl (.bool false))) rfl (og rfl (op_assign rfl rfl rfl)) ?_
          refine rg_done rfl ?_
          refine a_ret ?_
          show ∃ ds, ResL _ _ _ ds ∧ RV.of ds = _
          refine ⟨[.fl (.bool false)], (.cons (.tmp rfl (.d _)) .nil), ?_⟩
          first
            | (have hu : fit k d = false := by
                unfold fit nrmB; simp only [h1, h8, h16, h18, Bool.true_or, Bool.false_or, Bool.or_true, Bool.or_false, Bool.not_true, Bool.not_false, cond_true, cond_false, Bool.true_and, Bool.false_and, Bool.and_true, Bool.and_false] <;> rfl
               rw [hu]; rfl)
            | (exfalso; omega)
        · skip
          have h20 := t_dec h18
          refine rg_put (d := 56) (v := .pt 101 5) rfl (oy rfl rfl rfl h18 (of_eff (s_field_pt rfl Tryz.underlying40 rfl ti3 rfl rfl rfl) rfl)) ?_
          refine rg_put (d := 57) (v := .d (.fl (.int .i64 d.axl))) rfl (oy rfl rfl rfl h18 (op_load_pt rfl Tryz.underlying3 rfl rfl rfl rfl rfl)) ?_
          refine rg_put (d := 58) (v := .d (.fl (.bool ((decide (d.axl ≤ 20)))))) rfl (oy rfl rfl rfl h18 (op_bin rfl rfl rfl (b_leq _ _ _ _) rfl)) ?_
          refine rg_put (d := 59) (v := .d (.fl (.bool ((decide (d.axl ≤ 20)))))) rfl (og rfl (op_pick rfl rfl (by rw [h18]; rfl) rfl)) ?_
          refine rg_put (d := 60) (v := .d (.fl (.bool ((decide (d.axl ≤ 20)))))) rfl (og rfl (op_move rfl rfl rfl)) ?_
          rcases fot ((decide (d.axl ≤ 20))) with h21 | h21
          · skip
            have h22 := f_dec h21
            refine rg_put (d := 61) (v := .d (.fl undef)) rfl (on rfl rfl rfl h21) ?_
            refine rg_put (d := 62) (v := .d (.fl undef)) rfl (on rfl rfl rfl h21) ?_
            refine rg_put (d := 63) (v := .d (.fl undef)) rfl (on rfl rfl rfl h21) ?_
            refine rg_put (d := 64) (v := .d (.fl (.bool false))) rfl (og rfl (op_pick rfl rfl (by rw [h21]; rfl) rfl)) ?_
            refine rg_put (d := 65) (v := .d (.fl (.bool false))) rfl (og rfl (op_move rfl rfl rfl)) ?_
            refine rg_put (d := 66) (v := .d (.fl undef)) rfl (on rfl rfl rfl rfl) ?_
            refine rg_put (d := 67) (v := .d (.fl undef)) rfl (on rfl rfl rfl rfl) ?_
            refine rg_put (d := 68) (v := .d (.fl undef)) rfl (on rfl rfl rfl rfl) ?_
            refine rg_put (d := 69) (v := .d (.fl (.bool false))) rfl (og rfl (op_pick rfl rfl rfl rfl)) ?_
            refine rg_put (d := 4) (v := .d (.fl (.bool false))) rfl (og rfl (op_assign rfl rfl rfl)) ?_
            refine rg_done rfl ?_
            refine a_ret ?_
            show ∃ ds, ResL _ _ _ ds ∧ RV.of ds = _
            refine ⟨[.fl (.bool false)], (.cons (.tmp rfl (.d _)) .nil), ?_⟩
            first
              | (have hu : fit k d = false := by
                  unfold fit nrmB; simp only [h1, h8, h16, h18, h21, Bool.true_or, Bool.false_or, Bool.or_true, Bool.or_false, Bool.not_true, Bool.not_false, cond_true, cond_false, Bool.true_and, Bool.false_and, Bool.and_true, Bool.and_false] <;> rfl
                 rw [hu]; rfl)
              | (exfalso; omega)
          · skip
            have h23 := t_dec h21
            refine rg_put (d := 61) (v := .pt 101 3) rfl (oy rfl rfl rfl h21 (of_eff (s_field_pt rfl Tryz.underlying40 rfl ti9 rfl rfl rfl) rfl)) ?_
            refine rg_put (d := 62) (v := .d (.fl (.string d.tag))) rfl (oy rfl rfl rfl h21 (op_load_pt rfl Tryz.underlying9 rfl rfl rfl rfl rfl)) ?_
            refine rg_put (d := 63) (v := .d (.fl (.bool ((sEq d.tag (⟨#[]⟩)))))) rfl (oy rfl rfl rfl h21 (op_bin rfl rfl rfl (b_seq _ _ _) rfl)) ?_
            refine rg_put (d := 64) (v := .d (.fl (.bool ((sEq d.tag (⟨#[]⟩)))))) rfl (og rfl (op_pick rfl rfl (by rw [h21]; rfl) rfl)) ?_
            refine rg_put (d := 65) (v := .d (.fl (.bool ((sEq d.tag (⟨#[]⟩)))))) rfl (og rfl (op_move rfl rfl rfl)) ?_
            rcases fot ((sEq d.tag (⟨#[]⟩))) with h24 | h24
            · skip
              refine rg_put (d := 66) (v := .d (.fl undef)) rfl (on rfl rfl rfl h24) ?_
              refine rg_put (d := 67) (v := .d (.fl undef)) rfl (on rfl rfl rfl h24) ?_
              refine rg_put (d := 68) (v := .d (.fl undef)) rfl (on rfl rfl rfl h24) ?_
              refine rg_put (d := 69) (v := .d (.fl (.bool false))) rfl (og rfl (op_pick rfl rfl (by rw [h24]; rfl) rfl)) ?_
              refine rg_put (d := 4) (v := .d (.fl (.bool false))) rfl (og rfl (op_assign rfl rfl rfl)) ?_
              refine rg_done rfl ?_
              refine a_ret ?_
              show ∃ ds, ResL _ _ _ ds ∧ RV.of ds = _
              refine ⟨[.fl (.bool false)], (.cons (.tmp rfl (.d _)) .nil), ?_⟩
              first
                | (have hu : fit k d = false := by
                    unfold fit nrmB; simp only [h1, h8, h16, h18, h21, h24, Bool.true_or, Bool.false_or, Bool.or_true, Bool.or_false, Bool.not_true, Bool.not_false, cond_true, cond_false, Bool.true_and, Bool.false_and, Bool.and_true, Bool.and_false] <;> rfl
                   rw [hu]; rfl)
                | (exfalso; omega)
            · skip
              refine rg_put (d := 66) (v := .pt 101 4) rfl (oy rfl rfl rfl h24 (of_eff (s_field_pt rfl Tryz.underlying40 rfl ti9 rfl rfl rfl) rfl)) ?_
              refine rg_put (d := 67) (v := .d (.fl (.string d.plate))) rfl (oy rfl rfl rfl h24 (op_load_pt rfl Tryz.underlying9 rfl rfl rfl rfl rfl)) ?_
              refine rg_put (d := 68) (v := .d (.fl (.bool ((sEq d.plate (⟨#[]⟩)))))) rfl (oy rfl rfl rfl h24 (op_bin rfl rfl rfl (b_seq _ _ _) rfl)) ?_
              refine rg_put (d := 69) (v := .d (.fl (.bool ((sEq d.plate (⟨#[]⟩)))))) rfl (og rfl (op_pick rfl rfl (by rw [h24]; rfl) rfl)) ?_
              refine rg_put (d := 4) (v := .d (.fl (.bool ((sEq d.plate (⟨#[]⟩)))))) rfl (og rfl (op_assign rfl rfl rfl)) ?_
              refine rg_done rfl ?_
              refine a_ret ?_
              show ∃ ds, ResL _ _ _ ds ∧ RV.of ds = _
              refine ⟨[.fl (.bool ((sEq d.plate (⟨#[]⟩))))], (.cons (.tmp rfl (.d _)) .nil), ?_⟩
              first
                | (have hu : fit k d = (sEq d.plate (⟨#[]⟩)) := by
                    unfold fit nrmB; simp only [h1, h8, h16, h18, h21, h24, Bool.true_or, Bool.false_or, Bool.or_true, Bool.or_false, Bool.not_true, Bool.not_false, cond_true, cond_false, Bool.true_and, Bool.false_and, Bool.and_true, Bool.and_false] <;> rfl
                   rw [hu]; rfl)
                | (exfalso; omega)
      · skip
        have h25 := f_beq h16
        refine a_skip ?_
        show A _ _ _ _ _ _ _
        refine a_rseq ?_
        refine rg_put (d := 4) (v := .d (.fl (.bool false))) rfl (og rfl (op_assign rfl rfl rfl)) ?_
        refine rg_done rfl ?_
        refine a_ret ?_
        show ∃ ds, ResL _ _ _ ds ∧ RV.of ds = _
        refine ⟨[.fl (.bool false)], (.cons (.tmp rfl (.d _)) .nil), ?_⟩
        first
          | (have hu : fit k d = false := by
              unfold fit nrmB; simp only [h1, h8, h16, Bool.true_or, Bool.false_or, Bool.or_true, Bool.or_false, Bool.not_true, Bool.not_false, cond_true, cond_false, Bool.true_and, Bool.false_and, Bool.and_true, Bool.and_false] <;> rfl
             rw [hu]; rfl)
          | (exfalso; omega)
set_option maxHeartbeats 4000000 in
set_option maxRecDepth 100000 in
theorem fitR (k : Int) (d : Den) (hp : d.plate.size ≤ 100000) : Ctr Tryz.prog 47 [.fl (.int .i64 k), .ag (eDen d)] (.d (.fl (.bool (fit k d)))) := by
  refine ctr (n := 71) (rs := #[.tmp 4]) (L := [(0, .d (.fl (.int .i64 k))), (1, .d (.ag (eDen d)))]) Tryz.func47 rfl rfl rfl rfl rfl (fun w0 U0 => ?_)
  refine a_rseq ?_
  refine rg_nam (d := 3) (v := .pt 101 0) (m := 101) (nw := [(101, .bx 40 (eDen d))]) rfl (og rfl (of_eff (op_box 101 rfl rfl rfl rfl) rfl)) rfl ?_
  refine rg_put (d := 4) (v := .d (.fl (.bool false))) rfl (og rfl (op_assign rfl rfl rfl)) ?_
  refine rg_done rfl ?_
  refine a_seq ?_
  refine a_rseq ?_
  refine rg_put (d := 7) (v := .d (.fl (.int .i64 k))) rfl (og rfl (op_move rfl rfl rfl)) ?_
  refine rg_put (d := 8) (v := .d (.fl (.bool (k == 1)))) rfl (og rfl (op_bin rfl rfl rfl (b_eql _ _ _ _) rfl)) ?_
  refine rg_done rfl ?_
  refine a_cond rfl (fun h1 => ?_) (fun h1 => ?_)
  · skip
    have h2 := t_beq h1
    refine a_rseq ?_
    refine rg_put (d := 9) (v := .pt 101 3) rfl (og rfl (of_eff (s_field_pt rfl Tryz.underlying40 rfl ti9 rfl rfl rfl) rfl)) ?_
    refine rg_put (d := 10) (v := .d (.fl (.string d.tag))) rfl (og rfl (op_load_pt rfl Tryz.underlying9 rfl rfl rfl rfl rfl)) ?_
    refine rg_put (d := 11) (v := .d (.fl (.int .i64 (Tm.ck d.tag)))) rfl (og rfl (op_call rfl Tryz.func32 nm32 rfl (.cons rfl (.d _) .nil) (tagC32 d.tag) rfl)) ?_
    refine rg_put (d := 12) (v := .d (.fl (.bool (((Tm.ck d.tag) == 0))))) rfl (og rfl (op_bin rfl rfl rfl (b_eql _ _ _ _) rfl)) ?_
    refine rg_put (d := 13) (v := .d (.fl (.bool (((Tm.ck d.tag) == 0))))) rfl (og rfl (op_move rfl rfl rfl)) ?_
    rcases fot (((Tm.ck d.tag) == 0)) with h3 | h3
    · skip
      have h4 := f_beq h3
      refine rg_put (d := 14) (v := .d (.fl undef)) rfl (on rfl rfl rfl h3) ?_
      refine rg_put (d := 15) (v := .d (.fl undef)) rfl (on rfl rfl rfl h3) ?_
      refine rg_put (d := 16) (v := .d (.fl undef)) rfl (on rfl rfl rfl h3) ?_
      refine rg_put (d := 17) (v := .d (.fl (.bool false))) rfl (og rfl (op_pick rfl rfl (by rw [h3]; rfl) rfl)) ?_
      refine rg_put (d := 18) (v := .d (.fl (.bool false))) rfl (og rfl (op_move rfl rfl rfl)) ?_
      refine rg_put (d := 19) (v := .d (.fl undef)) rfl (on rfl rfl rfl rfl) ?_
      refine rg_put (d := 20) (v := .d (.fl undef)) rfl (on rfl rfl rfl rfl) ?_
      refine rg_put (d := 21) (v := .d (.fl undef)) rfl (on rfl rfl rfl rfl) ?_
      refine rg_put (d := 22) (v := .d (.fl (.bool false))) rfl (og rfl (op_pick rfl rfl rfl rfl)) ?_
      refine rg_put (d := 4) (v := .d (.fl (.bool false))) rfl (og rfl (op_assign rfl rfl rfl)) ?_
      refine rg_done rfl ?_
      refine a_ret ?_
      show ∃ ds, ResL _ _ _ ds ∧ RV.of ds = _
      refine ⟨[.fl (.bool false)], (.cons (.tmp rfl (.d _)) .nil), ?_⟩
      first
        | (have hu : fit k d = false := by
            unfold fit nrmB; simp only [h1, h3, Bool.true_or, Bool.false_or, Bool.or_true, Bool.or_false, Bool.not_true, Bool.not_false, cond_true, cond_false, Bool.true_and, Bool.false_and, Bool.and_true, Bool.and_false] <;> rfl
           rw [hu]; rfl)
        | (exfalso; omega)
    · skip
      have h5 := t_beq h3
      refine rg_put (d := 14) (v := .pt 101 4) rfl (oy rfl rfl rfl h3 (of_eff (s_field_pt rfl Tryz.underlying40 rfl ti9 rfl rfl rfl) rfl)) ?_
      refine rg_put (d := 15) (v := .d (.fl (.string d.plate))) rfl (oy rfl rfl rfl h3 (op_load_pt rfl Tryz.underlying9 rfl rfl rfl rfl rfl)) ?_
      refine rg_put (d := 16) (v := .d (.fl (.bool ((sEq d.plate (⟨#[]⟩)))))) rfl (oy rfl rfl rfl h3 (op_bin rfl rfl rfl (b_seq _ _ _) rfl)) ?_
      refine rg_put (d := 17) (v := .d (.fl (.bool ((sEq d.plate (⟨#[]⟩)))))) rfl (og rfl (op_pick rfl rfl (by rw [h3]; rfl) rfl)) ?_
      refine rg_put (d := 18) (v := .d (.fl (.bool ((sEq d.plate (⟨#[]⟩)))))) rfl (og rfl (op_move rfl rfl rfl)) ?_
      rcases fot ((sEq d.plate (⟨#[]⟩))) with h6 | h6
      · skip
        refine rg_put (d := 19) (v := .d (.fl undef)) rfl (on rfl rfl rfl h6) ?_
        refine rg_put (d := 20) (v := .d (.fl undef)) rfl (on rfl rfl rfl h6) ?_
        refine rg_put (d := 21) (v := .d (.fl undef)) rfl (on rfl rfl rfl h6) ?_
        refine rg_put (d := 22) (v := .d (.fl (.bool false))) rfl (og rfl (op_pick rfl rfl (by rw [h6]; rfl) rfl)) ?_
        refine rg_put (d := 4) (v := .d (.fl (.bool false))) rfl (og rfl (op_assign rfl rfl rfl)) ?_
        refine rg_done rfl ?_
        refine a_ret ?_
        show ∃ ds, ResL _ _ _ ds ∧ RV.of ds = _
        refine ⟨[.fl (.bool false)], (.cons (.tmp rfl (.d _)) .nil), ?_⟩
        first
          | (have hu : fit k d = false := by
              unfold fit nrmB; simp only [h1, h3, h6, Bool.true_or, Bool.false_or, Bool.or_true, Bool.or_false, Bool.not_true, Bool.not_false, cond_true, cond_false, Bool.true_and, Bool.false_and, Bool.and_true, Bool.and_false] <;> rfl
             rw [hu]; rfl)
          | (exfalso; omega)
      · skip
        refine rg_put (d := 19) (v := .pt 101 5) rfl (oy rfl rfl rfl h6 (of_eff (s_field_pt rfl Tryz.underlying40 rfl ti3 rfl rfl rfl) rfl)) ?_
        refine rg_put (d := 20) (v := .d (.fl (.int .i64 d.axl))) rfl (oy rfl rfl rfl h6 (op_load_pt rfl Tryz.underlying3 rfl rfl rfl rfl rfl)) ?_
        refine rg_put (d := 21) (v := .d (.fl (.bool (d.axl == 0)))) rfl (oy rfl rfl rfl h6 (op_bin rfl rfl rfl (b_eql _ _ _ _) rfl)) ?_
        refine rg_put (d := 22) (v := .d (.fl (.bool (d.axl == 0)))) rfl (og rfl (op_pick rfl rfl (by rw [h6]; rfl) rfl)) ?_
        refine rg_put (d := 4) (v := .d (.fl (.bool (d.axl == 0)))) rfl (og rfl (op_assign rfl rfl rfl)) ?_
        refine rg_done rfl ?_
        refine a_ret ?_
        show ∃ ds, ResL _ _ _ ds ∧ RV.of ds = _
        refine ⟨[.fl (.bool (d.axl == 0))], (.cons (.tmp rfl (.d _)) .nil), ?_⟩
        first
          | (have hu : fit k d = (d.axl == 0) := by
              unfold fit nrmB; simp only [h1, h3, h6, Bool.true_or, Bool.false_or, Bool.or_true, Bool.or_false, Bool.not_true, Bool.not_false, cond_true, cond_false, Bool.true_and, Bool.false_and, Bool.and_true, Bool.and_false] <;> rfl
             rw [hu]; rfl)
          | (exfalso; omega)
  · skip
    have h7 := f_beq h1
    refine a_skip ?_
    show A _ _ _ _ _ _ _
    refine a_seq ?_
    refine a_rseq ?_
    refine rg_put (d := 23) (v := .d (.fl (.int .i64 k))) rfl (og rfl (op_move rfl rfl rfl)) ?_
    refine rg_put (d := 24) (v := .d (.fl (.bool (k == 2)))) rfl (og rfl (op_bin rfl rfl rfl (b_eql _ _ _ _) rfl)) ?_
    refine rg_done rfl ?_
    refine a_cond rfl (fun h8 => ?_) (fun h8 => ?_)
    · skip
      have h9 := t_beq h8
      refine a_rseq ?_
      refine rg_put (d := 26) (v := .pt 101 4) rfl (og rfl (of_eff (s_field_pt rfl Tryz.underlying40 rfl ti9 rfl rfl rfl) rfl)) ?_
      refine rg_put (d := 27) (v := .d (.fl (.string d.plate))) rfl (og rfl (op_load_pt rfl Tryz.underlying9 rfl rfl rfl rfl rfl)) ?_
      refine rg_put (d := 28) (v := .tu [.fl (.string (nmS d.plate)), .fl (.int .i64 (nmI d.plate))]) rfl (og rfl (op_call rfl Tryz.func33 nm33 rfl (.cons rfl (.d _) .nil) (norR d.plate (by omega)) rfl)) ?_
      refine rg_put (d := 25) (v := .tu [.fl (.string (nmS d.plate)), .fl (.int .i64 (nmI d.plate))]) rfl (og rfl (op_move rfl rfl rfl)) ?_
      refine rg_put (d := 29) (v := .d (.fl (.string (nmS d.plate)))) rfl (og rfl (op_extract rfl rfl rfl rfl)) ?_
      refine rg_put (d := 30) (v := .d (.fl (.int .i64 (nmI d.plate)))) rfl (og rfl (op_extract rfl rfl rfl rfl)) ?_
      refine rg_put (d := 5) (v := .d (.fl (.string (nmS d.plate)))) rfl (og rfl (op_assign rfl rfl rfl)) ?_
      refine rg_put (d := 6) (v := .d (.fl (.int .i64 (nmI d.plate)))) rfl (og rfl (op_assign rfl rfl rfl)) ?_
      refine rg_done rfl ?_
      refine a_rseq ?_
      refine rg_put (d := 31) (v := .d (.fl (.int .i64 (nmI d.plate)))) rfl (og rfl (op_move rfl rfl rfl)) ?_
      refine rg_put (d := 32) (v := .d (.fl (.bool (((nmI d.plate) == 0))))) rfl (og rfl (op_bin rfl rfl rfl (b_eql _ _ _ _) rfl)) ?_
      refine rg_put (d := 33) (v := .d (.fl (.bool (((nmI d.plate) == 0))))) rfl (og rfl (op_move rfl rfl rfl)) ?_
      rcases fot (((nmI d.plate) == 0)) with h10 | h10
      · skip
        have h11 := f_beq h10
        refine rg_put (d := 34) (v := .d (.fl undef)) rfl (on rfl rfl rfl h10) ?_
        refine rg_put (d := 35) (v := .d (.fl undef)) rfl (on rfl rfl rfl h10) ?_
        refine rg_put (d := 36) (v := .d (.fl undef)) rfl (on rfl rfl rfl h10) ?_
        refine rg_put (d := 37) (v := .d (.fl undef)) rfl (on rfl rfl rfl h10) ?_
        refine rg_put (d := 38) (v := .d (.fl (.bool false))) rfl (og rfl (op_pick rfl rfl (by rw [h10]; rfl) rfl)) ?_
        refine rg_put (d := 39) (v := .d (.fl (.bool false))) rfl (og rfl (op_move rfl rfl rfl)) ?_
        refine rg_put (d := 40) (v := .d (.fl undef)) rfl (on rfl rfl rfl rfl) ?_
        refine rg_put (d := 41) (v := .d (.fl undef)) rfl (on rfl rfl rfl rfl) ?_
        refine rg_put (d := 42) (v := .d (.fl undef)) rfl (on rfl rfl rfl rfl) ?_
        refine rg_put (d := 43) (v := .d (.fl (.bool false))) rfl (og rfl (op_pick rfl rfl rfl rfl)) ?_
        refine rg_put (d := 44) (v := .d (.fl (.bool false))) rfl (og rfl (op_move rfl rfl rfl)) ?_
        refine rg_put (d := 45) (v := .d (.fl undef)) rfl (on rfl rfl rfl rfl) ?_
        refine rg_put (d := 46) (v := .d (.fl undef)) rfl (on rfl rfl rfl rfl) ?_
        refine rg_put (d := 47) (v := .d (.fl undef)) rfl (on rfl rfl rfl rfl) ?_
        refine rg_put (d := 48) (v := .d (.fl (.bool false))) rfl (og rfl (op_pick rfl rfl rfl rfl)) ?_
        refine rg_put (d := 4) (v := .d (.fl (.bool false))) rfl (og rfl (op_assign rfl rfl rfl)) ?_
        refine rg_done rfl ?_
        refine a_ret ?_
        show ∃ ds, ResL _ _ _ ds ∧ RV.of ds = _
        refine ⟨[.fl (.bool false)], (.cons (.tmp rfl (.d _)) .nil), ?_⟩
        first
          | (have hu : fit k d = false := by
              unfold fit nrmB; simp only [h1, h8, h10, Bool.true_or, Bool.false_or, Bool.or_true, Bool.or_false, Bool.not_true, Bool.not_false, cond_true, cond_false, Bool.true_and, Bool.false_and, Bool.and_true, Bool.and_false] <;> rfl
             rw [hu]; rfl)
          | (exfalso; omega)
      · skip
        have h12 := t_beq h10
        refine rg_put (d := 34) (v := .d (.fl (.string (nmS d.plate)))) rfl (oy rfl rfl rfl h10 (op_move rfl rfl rfl)) ?_
        refine rg_put (d := 35) (v := .pt 101 4) rfl (oy rfl rfl rfl h10 (of_eff (s_field_pt rfl Tryz.underlying40 rfl ti9 rfl rfl rfl) rfl)) ?_
        refine rg_put (d := 36) (v := .d (.fl (.string d.plate))) rfl (oy rfl rfl rfl h10 (op_load_pt rfl Tryz.underlying9 rfl rfl rfl rfl rfl)) ?_
        refine rg_put (d := 37) (v := .d (.fl (.bool ((sEq (nmS d.plate) d.plate))))) rfl (oy rfl rfl rfl h10 (op_bin rfl rfl rfl (b_seq _ _ _) rfl)) ?_
        refine rg_put (d := 38) (v := .d (.fl (.bool ((sEq (nmS d.plate) d.plate))))) rfl (og rfl (op_pick rfl rfl (by rw [h10]; rfl) rfl)) ?_
        refine rg_put (d := 39) (v := .d (.fl (.bool ((sEq (nmS d.plate) d.plate))))) rfl (og rfl (op_move rfl rfl rfl)) ?_
        rcases fot ((sEq (nmS d.plate) d.plate)) with h13 | h13
        · skip
          refine rg_put (d := 40) (v := .d (.fl undef)) rfl (on rfl rfl rfl h13) ?_
          refine rg_put (d := 41) (v := .d (.fl undef)) rfl (on rfl rfl rfl h13) ?_
          refine rg_put (d := 42) (v := .d (.fl undef)) rfl (on rfl rfl rfl h13) ?_
          refine rg_put (d := 43) (v := .d (.fl (.bool false))) rfl (og rfl (op_pick rfl rfl (by rw [h13]; rfl) rfl)) ?_
          refine rg_put (d := 44) (v := .d (.fl (.bool false))) rfl (og rfl (op_move rfl rfl rfl)) ?_
          refine rg_put (d := 45) (v := .d (.fl undef)) rfl (on rfl rfl rfl rfl) ?_
          refine rg_put (d := 46) (v := .d (.fl undef)) rfl (on rfl rfl rfl rfl) ?_
          refine rg_put (d := 47) (v := .d (.fl undef)) rfl (on rfl rfl rfl rfl) ?_
          refine rg_put (d := 48) (v := .d (.fl (.bool false))) rfl (og rfl (op_pick rfl rfl rfl rfl)) ?_
          refine rg_put (d := 4) (v := .d (.fl (.bool false))) rfl (og rfl (op_assign rfl rfl rfl)) ?_
          refine rg_done rfl ?_
          refine a_ret ?_
          show ∃ ds, ResL _ _ _ ds ∧ RV.of ds = _
          refine ⟨[.fl (.bool false)], (.cons (.tmp rfl (.d _)) .nil), ?_⟩
          first
            | (have hu : fit k d = false := by
                unfold fit nrmB; simp only [h1, h8, h10, h13, Bool.true_or, Bool.false_or, Bool.or_true, Bool.or_false, Bool.not_true, Bool.not_false, cond_true, cond_false, Bool.true_and, Bool.false_and, Bool.and_true, Bool.and_false] <;> rfl
               rw [hu]; rfl)
            | (exfalso; omega)
        · skip
          refine rg_put (d := 40) (v := .pt 101 3) rfl (oy rfl rfl rfl h13 (of_eff (s_field_pt rfl Tryz.underlying40 rfl ti9 rfl rfl rfl) rfl)) ?_
          refine rg_put (d := 41) (v := .d (.fl (.string d.tag))) rfl (oy rfl rfl rfl h13 (op_load_pt rfl Tryz.underlying9 rfl rfl rfl rfl rfl)) ?_
          refine rg_put (d := 42) (v := .d (.fl (.bool ((sEq d.tag (⟨#[]⟩)))))) rfl (oy rfl rfl rfl h13 (op_bin rfl rfl rfl (b_seq _ _ _) rfl)) ?_
          refine rg_put (d := 43) (v := .d (.fl (.bool ((sEq d.tag (⟨#[]⟩)))))) rfl (og rfl (op_pick rfl rfl (by rw [h13]; rfl) rfl)) ?_
          refine rg_put (d := 44) (v := .d (.fl (.bool ((sEq d.tag (⟨#[]⟩)))))) rfl (og rfl (op_move rfl rfl rfl)) ?_
          rcases fot ((sEq d.tag (⟨#[]⟩))) with h14 | h14
          · skip
            refine rg_put (d := 45) (v := .d (.fl undef)) rfl (on rfl rfl rfl h14) ?_
            refine rg_put (d := 46) (v := .d (.fl undef)) rfl (on rfl rfl rfl h14) ?_
            refine rg_put (d := 47) (v := .d (.fl undef)) rfl (on rfl rfl rfl h14) ?_
            refine rg_put (d := 48) (v := .d (.fl (.bool false))) rfl (og rfl (op_pick rfl rfl (by rw [h14]; rfl) rfl)) ?_
            refine rg_put (d := 4) (v := .d (.fl (.bool false))) rfl (og rfl (op_assign rfl rfl rfl)) ?_
            refine rg_done rfl ?_
            refine a_ret ?_
            show ∃ ds, ResL _ _ _ ds ∧ RV.of ds = _
            refine ⟨[.fl (.bool false)], (.cons (.tmp rfl (.d _)) .nil), ?_⟩
            first
              | (have hu : fit k d = false := by
                  unfold fit nrmB; simp only [h1, h8, h10, h13, h14, Bool.true_or, Bool.false_or, Bool.or_true, Bool.or_false, Bool.not_true, Bool.not_false, cond_true, cond_false, Bool.true_and, Bool.false_and, Bool.and_true, Bool.and_false] <;> rfl
                 rw [hu]; rfl)
              | (exfalso; omega)
          · skip
            refine rg_put (d := 45) (v := .pt 101 5) rfl (oy rfl rfl rfl h14 (of_eff (s_field_pt rfl Tryz.underlying40 rfl ti3 rfl rfl rfl) rfl)) ?_
            refine rg_put (d := 46) (v := .d (.fl (.int .i64 d.axl))) rfl (oy rfl rfl rfl h14 (op_load_pt rfl Tryz.underlying3 rfl rfl rfl rfl rfl)) ?_
            refine rg_put (d := 47) (v := .d (.fl (.bool (d.axl == 0)))) rfl (oy rfl rfl rfl h14 (op_bin rfl rfl rfl (b_eql _ _ _ _) rfl)) ?_
            refine rg_put (d := 48) (v := .d (.fl (.bool (d.axl == 0)))) rfl (og rfl (op_pick rfl rfl (by rw [h14]; rfl) rfl)) ?_
            refine rg_put (d := 4) (v := .d (.fl (.bool (d.axl == 0)))) rfl (og rfl (op_assign rfl rfl rfl)) ?_
            refine rg_done rfl ?_
            refine a_ret ?_
            show ∃ ds, ResL _ _ _ ds ∧ RV.of ds = _
            refine ⟨[.fl (.bool (d.axl == 0))], (.cons (.tmp rfl (.d _)) .nil), ?_⟩
            first
              | (have hu : fit k d = (d.axl == 0) := by
                  unfold fit nrmB; simp only [h1, h8, h10, h13, h14, Bool.true_or, Bool.false_or, Bool.or_true, Bool.or_false, Bool.not_true, Bool.not_false, cond_true, cond_false, Bool.true_and, Bool.false_and, Bool.and_true, Bool.and_false] <;> rfl
                 rw [hu]; rfl)
              | (exfalso; omega)
    · skip
      have h15 := f_beq h8
      refine a_skip ?_
      show A _ _ _ _ _ _ _
      refine a_rseq ?_
      refine rg_put (d := 49) (v := .d (.fl (.int .i64 k))) rfl (og rfl (op_move rfl rfl rfl)) ?_
      refine rg_put (d := 50) (v := .d (.fl (.bool (k == 3)))) rfl (og rfl (op_bin rfl rfl rfl (b_eql _ _ _ _) rfl)) ?_
      refine rg_put (d := 51) (v := .d (.fl (.bool (k == 3)))) rfl (og rfl (op_move rfl rfl rfl)) ?_
      rcases fot (k == 3) with h16 | h16
      · skip
        have h17 := f_beq h16
        refine rg_put (d := 52) (v := .d (.fl undef)) rfl (on rfl rfl rfl h16) ?_
        refine rg_put (d := 53) (v := .d (.fl undef)) rfl (on rfl rfl rfl h16) ?_
        refine rg_put (d := 54) (v := .d (.fl undef)) rfl (on rfl rfl rfl h16) ?_
        refine rg_put (d := 55) (v := .d (.fl (.bool false))) rfl (og rfl (op_pick rfl rfl (by rw [h16]; rfl) rfl)) ?_
        refine rg_put (d := 56) (v := .d (.fl (.bool false))) rfl (og rfl (op_move rfl rfl rfl)) ?_
        refine rg_put (d := 57) (v := .d (.fl undef)) rfl (on rfl rfl rfl rfl) ?_
        refine rg_put (d := 58) (v := .d (.fl undef)) rfl (on rfl rfl rfl rfl) ?_
        refine rg_put (d := 59) (v := .d (.fl undef)) rfl (on rfl rfl rfl rfl) ?_
        refine rg_put (d := 60) (v := .d (.fl (.bool false))) rfl (og rfl (op_pick rfl rfl rfl rfl)) ?_
        refine rg_put (d := 61) (v := .d (.fl (.bool false))) rfl (og rfl (op_move rfl rfl rfl)) ?_
        refine rg_put (d := 62) (v := .d (.fl undef)) rfl (on rfl rfl rfl rfl) ?_
        refine rg_put (d := 63) (v := .d (.fl undef)) rfl (on rfl rfl rfl rfl) ?_
        refine rg_put (d := 64) (v := .d (.fl undef)) rfl (on rfl rfl rfl rfl) ?_
        refine rg_put (d := 65) (v := .d (.fl (.bool false))) rfl (og rfl (op_pick rfl rfl rfl rfl)) ?_
        refine rg_put (d := 66) (v := .d (.fl (.bool false))) rfl (og rfl (op_move rfl rfl rfl)) ?_
        refine rg_put (d := 67) (v := .d (.fl undef)) rfl (on rfl rfl rfl rfl) ?_
        refine rg_put (d := 68) (v := .d (.fl undef)) rfl (on rfl rfl rfl rfl) ?_
        refine rg_put (d := 69) (v := .d (.fl undef)) rfl (on rfl rfl rfl rfl) ?_
        refine rg_put (d := 70) (v := .d (.fl (.bool false))) rfl (og rfl (op_pick rfl rfl rfl rfl)) ?_
        refine rg_put (d := 4) (v := .d (.fl (.bool false))) rfl (og rfl (op_assign rfl rfl rfl)) ?_
        refine rg_done rfl ?_
        refine a_ret ?_
        show ∃ ds, ResL _ _ _ ds ∧ RV.of ds = _
        refine ⟨[.fl (.bool false)], (.cons (.tmp rfl (.d _)) .nil), ?_⟩
        first
          | (have hu : fit k d = false := by
              unfold fit nrmB; simp only [h1, h8, h16, Bool.true_or, Bool.false_or, Bool.or_true, Bool.or_false, Bool.not_true, Bool.not_false, cond_true, cond_false, Bool.true_and, Bool.false_and, Bool.and_true, Bool.and_false] <;> rfl
             rw [hu]; rfl)
          | (exfalso; omega)
      · skip
        have h18 := t_beq h16
        refine rg_put (d := 52) (v := .pt 101 5) rfl (oy rfl rfl rfl h16 (of_eff (s_field_pt rfl Tryz.underlying40 rfl ti3 rfl rfl rfl) rfl)) ?_
        refine rg_put (d := 53) (v := .d (.fl (.int .i64 d.axl))) rfl (oy rfl rfl rfl h16 (op_load_pt rfl Tryz.underlying3 rfl rfl rfl rfl rfl)) ?_
        refine rg_put (d := 54) (v := .d (.fl (.bool ((decide (1 ≤ d.axl)))))) rfl (oy rfl rfl rfl h16 (op_bin rfl rfl rfl (b_geq _ _ _ _) rfl)) ?_
        refine rg_put (d := 55) (v := .d (.fl (.bool ((decide (1 ≤ d.axl)))))) rfl (og rfl (op_pick rfl rfl (by rw [h16]; rfl) rfl)) ?_
        refine rg_put (d := 56) (v := .d (.fl (.bool ((decide (1 ≤ d.axl)))))) rfl (og rfl (op_move rfl rfl rfl)) ?_
        rcases fot ((decide (1 ≤ d.axl))) with h19 | h19
        · skip
          have h20 := f_dec h19
          refine rg_put (d := 57) (v := .d (.fl undef)) rfl (on rfl rfl rfl h19) ?_
          refine rg_put (d := 58) (v := .d (.fl undef)) rfl (on rfl rfl rfl h19) ?_
          refine rg_put (d := 59) (v := .d (.fl undef)) rfl (on rfl rfl rfl h19) ?_
          refine rg_put (d := 60) (v := .d (.fl (.bool false))) rfl (og rfl (op_pick rfl rfl (by rw [h19]; rfl) rfl)) ?_
          refine rg_put (d := 61) (v := .d (.fl (.bool false))) rfl (og rfl (op_move rfl rfl rfl)) ?_
          refine rg_put (d := 62) (v := .d (.fl undef)) rfl (on rfl rfl rfl rfl) ?_
          refine rg_put (d := 63) (v := .d (.fl undef)) rfl (on rfl rfl rfl rfl) ?_
          refine rg_put (d := 64) (v := .d (.fl undef)) rfl (on rfl rfl rfl rfl) ?_
          refine rg_put (d := 65) (v := .d (.fl (.bool false))) rfl (og rfl (op_pick rfl rfl rfl rfl)) ?_
          refine rg_put (d := 66) (v := .d (.fl (.bool false))) rfl (og rfl (op_move rfl rfl rfl)) ?_
          refine rg_put (d := 67) (v := .d (.fl undef)) rfl (on rfl rfl rfl rfl) ?_
          refine rg_put (d := 68) (v := .d (.fl undef)) rfl (on rfl rfl rfl rfl) ?_
          refine rg_put (d := 69) (v := .d (.fl undef)) rfl (on rfl rfl rfl rfl) ?_
          refine rg_put (d := 70) (v := .d (.fl (.bool false))) rfl (og rfl (op_pick rfl rfl rfl rfl)) ?_
          refine rg_put (d := 4) (v := .d (.fl (.bool false))) rfl (og rfl (op_assign rfl rfl rfl)) ?_
          refine rg_done rfl ?_
          refine a_ret ?_
          show ∃ ds, ResL _ _ _ ds ∧ RV.of ds = _
          refine ⟨[.fl (.bool false)], (.cons (.tmp rfl (.d _)) .nil), ?_⟩
          first
            | (have hu : fit k d = false := by
                unfold fit nrmB; simp only [h1, h8, h16, h19, Bool.true_or, Bool.false_or, Bool.or_true, Bool.or_false, Bool.not_true, Bool.not_false, cond_true, cond_false, Bool.true_and, Bool.false_and, Bool.and_true, Bool.and_false] <;> rfl
               rw [hu]; rfl)
            | (exfalso; omega)
        · skip
          have h21 := t_dec h19
          refine rg_put (d := 57) (v := .pt 101 5) rfl (oy rfl rfl rfl h19 (of_eff (s_field_pt rfl Tryz.underlying40 rfl ti3 rfl rfl rfl) rfl)) ?_
          refine rg_put (d := 58) (v := .d (.fl (.int .i64 d.axl))) rfl (oy rfl rfl rfl h19 (op_load_pt rfl Tryz.underlying3 rfl rfl rfl rfl rfl)) ?_
          refine rg_put (d := 59) (v := .d (.fl (.bool ((decide (d.axl ≤ 20)))))) rfl (oy rfl rfl rfl h19 (op_bin rfl rfl rfl (b_leq _ _ _ _) rfl)) ?_
          refine rg_put (d := 60) (v := .d (.fl (.bool ((decide (d.axl ≤ 20)))))) rfl (og rfl (op_pick rfl rfl (by rw [h19]; rfl) rfl)) ?_
          refine rg_put (d := 61) (v := .d (.fl (.bool ((decide (d.axl ≤ 20)))))) rfl (og rfl (op_move rfl rfl rfl)) ?_
          rcases fot ((decide (d.axl ≤ 20))) with h22 | h22
          · skip
            have h23 := f_dec h22
            refine rg_put (d := 62) (v := .d (.fl undef)) rfl (on rfl rfl rfl h22) ?_
            refine rg_put (d := 63) (v := .d (.fl undef)) rfl (on rfl rfl rfl h22) ?_
            refine rg_put (d := 64) (v := .d (.fl undef)) rfl (on rfl rfl rfl h22) ?_
            refine rg_put (d := 65) (v := .d (.fl (.bool false))) rfl (og rfl (op_pick rfl rfl (by rw [h22]; rfl) rfl)) ?_
            refine rg_put (d := 66) (v := .d (.fl (.bool false))) rfl (og rfl (op_move rfl rfl rfl)) ?_
            refine rg_put (d := 67) (v := .d (.fl undef)) rfl (on rfl rfl rfl rfl) ?_
            refine rg_put (d := 68) (v := .d (.fl undef)) rfl (on rfl rfl rfl rfl) ?_
            refine rg_put (d := 69) (v := .d (.fl undef)) rfl (on rfl rfl rfl rfl) ?_
            refine rg_put (d := 70) (v := .d (.fl (.bool false))) rfl (og rfl (op_pick rfl rfl rfl rfl)) ?_
            refine rg_put (d := 4) (v := .d (.fl (.bool false))) rfl (og rfl (op_assign rfl rfl rfl)) ?_
            refine rg_done rfl ?_
            refine a_ret ?_
            show ∃ ds, ResL _ _ _ ds ∧ RV.of ds = _
            refine ⟨[.fl (.bool false)], (.cons (.tmp rfl (.d _)) .nil), ?_⟩
            first
              | (have hu : fit k d = false := by
                  unfold fit nrmB; simp only [h1, h8, h16, h19, h22, Bool.true_or, Bool.false_or, Bool.or_true, Bool.or_false, Bool.not_true, Bool.not_false, cond_true, cond_false, Bool.true_and, Bool.false_and, Bool.and_true, Bool.and_false] <;> rfl
                 rw [hu]; rfl)
              | (exfalso; omega)
          · skip
            have h24 := t_dec h22
            refine rg_put (d := 62) (v := .pt 101 3) rfl (oy rfl rfl rfl h22 (of_eff (s_field_pt rfl Tryz.underlying40 rfl ti9 rfl rfl rfl) rfl)) ?_
            refine rg_put (d := 63) (v := .d (.fl (.string d.tag))) rfl (oy rfl rfl rfl h22 (op_load_pt rfl Tryz.underlying9 rfl rfl rfl rfl rfl)) ?_
            refine rg_put (d := 64) (v := .d (.fl (.bool ((sEq d.tag (⟨#[]⟩)))))) rfl (oy rfl rfl rfl h22 (op_bin rfl rfl rfl (b_seq _ _ _) rfl)) ?_
            refine rg_put (d := 65) (v := .d (.fl (.bool ((sEq d.tag (⟨#[]⟩)))))) rfl (og rfl (op_pick rfl rfl (by rw [h22]; rfl) rfl)) ?_
            refine rg_put (d := 66) (v := .d (.fl (.bool ((sEq d.tag (⟨#[]⟩)))))) rfl (og rfl (op_move rfl rfl rfl)) ?_
            rcases fot ((sEq d.tag (⟨#[]⟩))) with h25 | h25
            · skip
              refine rg_put (d := 67) (v := .d (.fl undef)) rfl (on rfl rfl rfl h25) ?_
              refine rg_put (d := 68) (v := .d (.fl undef)) rfl (on rfl rfl rfl h25) ?_
              refine rg_put (d := 69) (v := .d (.fl undef)) rfl (on rfl rfl rfl h25) ?_
              refine rg_put (d := 70) (v := .d (.fl (.bool false))) rfl (og rfl (op_pick rfl rfl (by rw [h25]; rfl) rfl)) ?_
              refine rg_put (d := 4) (v := .d (.fl (.bool false))) rfl (og rfl (op_assign rfl rfl rfl)) ?_
              refine rg_done rfl ?_
              refine a_ret ?_
              show ∃ ds, ResL _ _ _ ds ∧ RV.of ds = _
              refine ⟨[.fl (.bool false)], (.cons (.tmp rfl (.d _)) .nil), ?_⟩
              first
                | (have hu : fit k d = false := by
                    unfold fit nrmB; simp only [h1, h8, h16, h19, h22, h25, Bool.true_or, Bool.false_or, Bool.or_true, Bool.or_false, Bool.not_true, Bool.not_false, cond_true, cond_false, Bool.true_and, Bool.false_and, Bool.and_true, Bool.and_false] <;> rfl
                   rw [hu]; rfl)
                | (exfalso; omega)
            · skip
              refine rg_put (d := 67) (v := .pt 101 4) rfl (oy rfl rfl rfl h25 (of_eff (s_field_pt rfl Tryz.underlying40 rfl ti9 rfl rfl rfl) rfl)) ?_
              refine rg_put (d := 68) (v := .d (.fl (.string d.plate))) rfl (oy rfl rfl rfl h25 (op_load_pt rfl Tryz.underlying9 rfl rfl rfl rfl rfl)) ?_
              refine rg_put (d := 69) (v := .d (.fl (.bool ((sEq d.plate (⟨#[]⟩)))))) rfl (oy rfl rfl rfl h25 (op_bin rfl rfl rfl (b_seq _ _ _) rfl)) ?_
              refine rg_put (d := 70) (v := .d (.fl (.bool ((sEq d.plate (⟨#[]⟩)))))) rfl (og rfl (op_pick rfl rfl (by rw [h25]; rfl) rfl)) ?_
              refine rg_put (d := 4) (v := .d (.fl (.bool ((sEq d.plate (⟨#[]⟩)))))) rfl (og rfl (op_assign rfl rfl rfl)) ?_
              refine rg_done rfl ?_
              refine a_ret ?_
              show ∃ ds, ResL _ _ _ ds ∧ RV.of ds = _
              refine ⟨[.fl (.bool ((sEq d.plate (⟨#[]⟩))))], (.cons (.tmp rfl (.d _)) .nil), ?_⟩
              first
                | (have hu : fit k d = (sEq d.plate (⟨#[]⟩)) := by
                    unfold fit nrmB; simp only [h1, h8, h16, h19, h22, h25, Bool.true_or, Bool.false_or, Bool.or_true, Bool.or_false, Bool.not_true, Bool.not_false, cond_true, cond_false, Bool.true_and, Bool.false_and, Bool.and_true, Bool.and_false] <;> rfl
                   rw [hu]; rfl)
                | (exfalso; omega)
set_option maxHeartbeats 4000000 in
set_option maxRecDepth 100000 in
theorem rsC (c : Can) (hp : c.d.plate.size ≤ 100000) (ho : c.dev.offs.length ≤ 1000) (hw : c.dev.down.length ≤ 1000) (hr : ∀ o ∈ c.dev.offs, -9223372036854775808 ≤ o.dl ∧ o.dl ≤ 9223372036854775807) : CtrK Tryz.prog KK 51 [.ag (eCan c), .fl (.int .i64 (1 : Int))] (.tu [.fl (.int .i64 (rsn c).1), .fl (.int .i64 (rsn c).2)]) := by
  refine ctrK (n := 50) (rs := #[.tmp 4, .tmp 5]) (L := [(0, .d (.ag (eCan c))), (1, .d (.fl (.int .i64 (1 : Int))))]) Tryz.func51 rfl rfl rfl rfl rfl (fun w0 U0 hG => ?_)
  refine a_rseq ?_
  refine rg_nam (d := 2) (v := .pt 101 0) (m := 101) (nw := [(101, .bx 91 (eCan c))]) rfl (og rfl (of_eff (op_box 101 rfl rfl rfl rfl) rfl)) rfl ?_
  refine rg_put (d := 4) (v := .d (.fl (.int .i64 0))) rfl (og rfl (op_assign rfl rfl rfl)) ?_
  refine rg_put (d := 5) (v := .d (.fl (.int .i64 0))) rfl (og rfl (op_assign rfl rfl rfl)) ?_
  refine rg_done rfl ?_
  refine a_rseq ?_
  refine rg_put (d := 6) (v := .d (.fl (.int .i64 0))) rfl (og rfl (op_assign rfl rfl rfl)) ?_
  refine rg_done rfl ?_
  refine a_seq ?_
  refine a_rseq ?_
  refine rg_put (d := 8) (v := .d (.fl (.int .i64 (1 : Int)))) rfl (og rfl (op_move rfl rfl rfl)) ?_
  refine rg_done rfl ?_
  refine a_block ?_
  refine a_seq ?_
  refine a_block ?_
  refine a_seq ?_
  refine a_block ?_
  refine a_seq ?_
  refine a_block ?_
  refine a_seq ?_
  refine a_block ?_
  refine a_seq ?_
  refine a_seq ?_
  refine a_rseq ?_
  refine rg_put (d := 10) (v := .d (.fl (.bool (((1 : Int) == 1))))) rfl (og rfl (op_bin rfl rfl rfl (b_eql _ _ _ _) rfl)) ?_
  refine rg_put (d := 9) (v := .d (.fl (.bool (((1 : Int) == 1))))) rfl (og rfl (op_assign rfl rfl rfl)) ?_
  refine rg_done rfl ?_
  refine a_condK rfl rfl ?_
  refine a_exit ?_
  show A _ _ _ _ _ _ _
  refine a_rseq ?_
  refine rg_put (d := 17) (v := .pt 101 13) rfl (og rfl (of_eff (s_field_pt rfl Tryz.underlying91 rfl ti4 rfl rfl rfl) rfl)) ?_
  refine rg_put (d := 18) (v := .d (.fl (.bool c.known))) rfl (og rfl (op_load_pt rfl Tryz.underlying4 rfl rfl rfl rfl rfl)) ?_
  refine rg_put (d := 19) (v := .d (.fl (.bool (!c.known)))) rfl (og rfl (op_un rfl rfl (u_not _) rfl)) ?_
  refine rg_done rfl ?_
  refine a_cond rfl (fun h1 => ?_) (fun h1 => ?_)
  · skip
    have h2 := t_not h1
    refine a_rseq ?_
    refine rg_put (d := 4) (v := .d (.fl (.int .i64 1))) rfl (og rfl (op_assign rfl rfl rfl)) ?_
    refine rg_put (d := 5) (v := .d (.fl (.int .i64 0))) rfl (og rfl (op_assign rfl rfl rfl)) ?_
    refine rg_done rfl ?_
    refine a_ret ?_
    show ∃ ds, ResL _ _ _ ds ∧ RV.of ds = _
    refine ⟨[.fl (.int .i64 1), .fl (.int .i64 0)], (.cons (.tmp rfl (.d _)) (.cons (.tmp rfl (.d _)) .nil)), ?_⟩
    rw [show rsn c = (1, 0) from by unfold rsn; simp only [h1, h2, Bool.true_or, Bool.false_or, Bool.or_true, Bool.or_false, Bool.not_true, Bool.not_false, cond_true, cond_false, Bool.true_and, Bool.false_and, Bool.and_true, Bool.and_false] <;> rfl]; rfl
  · skip
    have h3 := f_not h1
    refine a_skip ?_
    show A _ _ _ _ _ _ _
    refine a_rseq ?_
    refine rg_put (d := 20) (v := .pt 101 0) rfl (og rfl (of_eff (s_field_pt rfl Tryz.underlying91 rfl ti40 rfl rfl rfl) rfl)) ?_
    refine rg_put (d := 21) (v := .d (.ag (eDen c.d))) rfl (og rfl (of_eff (s_load_pts rfl Tryz.underlying40 rfl ti40 rfl rfl rfl rfl) rfl)) ?_
    refine rg_put (d := 22) (v := .d (.fl (.bool (inL c.d)))) rfl (og rfl (op_call rfl Tryz.func89 nm89 rfl (.cons rfl (.d _) .nil) (inC c.d) rfl)) ?_
    refine rg_put (d := 23) (v := .d (.fl (.bool ((!(inL c.d)))))) rfl (og rfl (op_un rfl rfl (u_not _) rfl)) ?_
    refine rg_put (d := 24) (v := .d (.fl (.bool ((!(inL c.d)))))) rfl (og rfl (op_move rfl rfl rfl)) ?_
    rcases fot ((!(inL c.d))) with h4 | h4
    · skip
      have h5 := f_not h4
      refine rg_put (d := 25) (v := .pt 101 7) rfl (oy rfl rfl rfl h4 (of_eff (s_field_pt rfl Tryz.underlying91 rfl ti77 rfl rfl rfl) rfl)) ?_
      refine rg_put (d := 26) (v := .pt 101 9) rfl (oy rfl rfl rfl h4 (of_eff (s_field_pt rfl Tryz.underlying77 rfl ti3 rfl rfl rfl) rfl)) ?_
      refine rg_put (d := 27) (v := .d (.fl (.int .i64 c.dev.kind))) rfl (oy rfl rfl rfl h4 (op_load_pt rfl Tryz.underlying3 rfl rfl rfl rfl rfl)) ?_
      refine rg_put (d := 28) (v := .pt 101 0) rfl (oy rfl rfl rfl h4 (of_eff (s_field_pt rfl Tryz.underlying91 rfl ti40 rfl rfl rfl) rfl)) ?_
      refine rg_put (d := 29) (v := .d (.ag (eDen c.d))) rfl (oy rfl rfl rfl h4 (of_eff (s_load_pts rfl Tryz.underlying40 rfl ti40 rfl rfl rfl rfl) rfl)) ?_
      refine rg_put (d := 30) (v := .d (.fl (.bool (fit c.dev.kind c.d)))) rfl (oy rfl rfl rfl h4 (op_callK kkst hG rfl Tryz.func90 nm90 rfl (.cons rfl (.d _) (.cons rfl (.d _) .nil)) ((fitC c.dev.kind c.d (by omega))) rfl)) ?_
      refine rg_put (d := 31) (v := .d (.fl (.bool ((!(fit c.dev.kind c.d)))))) rfl (oy rfl rfl rfl h4 (op_un rfl rfl (u_not _) rfl)) ?_
      refine rg_put (d := 32) (v := .d (.fl (.bool ((!(fit c.dev.kind c.d)))))) rfl (og rfl (op_pick rfl rfl (by rw [h4]; rfl) rfl)) ?_
      refine rg_done rfl ?_
      refine a_cond rfl (fun h6 => ?_) (fun h6 => ?_)
      · skip
        have h7 := t_not h6
        refine a_rseq ?_
        refine rg_put (d := 4) (v := .d (.fl (.int .i64 3))) rfl (og rfl (op_assign rfl rfl rfl)) ?_
        refine rg_put (d := 5) (v := .d (.fl (.int .i64 0))) rfl (og rfl (op_assign rfl rfl rfl)) ?_
        refine rg_done rfl ?_
        refine a_ret ?_
        show ∃ ds, ResL _ _ _ ds ∧ RV.of ds = _
        refine ⟨[.fl (.int .i64 3), .fl (.int .i64 0)], (.cons (.tmp rfl (.d _)) (.cons (.tmp rfl (.d _)) .nil)), ?_⟩
        rw [show rsn c = (3, 0) from by unfold rsn; simp only [h1, h3, h4, h5, h6, h7, Bool.true_or, Bool.false_or, Bool.or_true, Bool.or_false, Bool.not_true, Bool.not_false, cond_true, cond_false, Bool.true_and, Bool.false_and, Bool.and_true, Bool.and_false] <;> rfl]; rfl
      · skip
        have h8 := f_not h6
        refine a_skip ?_
        show A _ _ _ _ _ _ _
        refine a_rseq ?_
        refine rg_put (d := 7) (v := .d (.fl (.bool false))) rfl (og rfl (op_assign rfl rfl rfl)) ?_
        refine rg_done rfl ?_
        refine a_rseq ?_
        refine rg_put (d := 34) (v := .pt 101 7) rfl (og rfl (of_eff (s_field_pt rfl Tryz.underlying91 rfl ti77 rfl rfl rfl) rfl)) ?_
        refine rg_put (d := 35) (v := .d (.ag (eDc c.dev))) rfl (og rfl (of_eff (s_load_pts rfl Tryz.underlying77 rfl ti77 rfl rfl rfl rfl) rfl)) ?_
        refine rg_put (d := 36) (v := .pt 101 0) rfl (og rfl (of_eff (s_field_pt rfl Tryz.underlying91 rfl ti40 rfl rfl rfl) rfl)) ?_
        refine rg_put (d := 37) (v := .pt 101 2) rfl (og rfl (of_eff (s_field_pt rfl Tryz.underlying40 rfl ti3 rfl rfl rfl) rfl)) ?_
        refine rg_put (d := 38) (v := .d (.fl (.int .i64 c.d.time))) rfl (og rfl (op_load_pt rfl Tryz.underlying3 rfl rfl rfl rfl rfl)) ?_
        refine rg_put (d := 39) (v := .tu [.fl (.int .i64 ((Dw.clk c.dev c.d.time).1)), .fl (.bool ((Dw.clk c.dev c.d.time).2))]) rfl (og rfl (op_call rfl Tryz.func91 nm91 rfl (.cons rfl (.d _) (.cons rfl (.d _) .nil)) (Dw.clk10 c.dev c.d.time ho hr) rfl)) ?_
        refine rg_put (d := 33) (v := .tu [.fl (.int .i64 ((Dw.clk c.dev c.d.time).1)), .fl (.bool ((Dw.clk c.dev c.d.time).2))]) rfl (og rfl (op_move rfl rfl rfl)) ?_
        refine rg_put (d := 40) (v := .d (.fl (.int .i64 ((Dw.clk c.dev c.d.time).1)))) rfl (og rfl (op_extract rfl rfl rfl rfl)) ?_
        refine rg_put (d := 41) (v := .d (.fl (.bool ((Dw.clk c.dev c.d.time).2)))) rfl (og rfl (op_extract rfl rfl rfl rfl)) ?_
        refine rg_put (d := 6) (v := .d (.fl (.int .i64 ((Dw.clk c.dev c.d.time).1)))) rfl (og rfl (op_assign rfl rfl rfl)) ?_
        refine rg_put (d := 7) (v := .d (.fl (.bool ((Dw.clk c.dev c.d.time).2)))) rfl (og rfl (op_assign rfl rfl rfl)) ?_
        refine rg_done rfl ?_
        refine a_rseq ?_
        refine rg_put (d := 42) (v := .d (.fl (.bool ((Dw.clk c.dev c.d.time).2)))) rfl (og rfl (op_move rfl rfl rfl)) ?_
        refine rg_put (d := 43) (v := .d (.fl (.bool ((!((Dw.clk c.dev c.d.time).2)))))) rfl (og rfl (op_un rfl rfl (u_not _) rfl)) ?_
        refine rg_done rfl ?_
        refine a_cond rfl (fun h9 => ?_) (fun h9 => ?_)
        · skip
          have h10 := t_not h9
          refine a_rseq ?_
          refine rg_put (d := 4) (v := .d (.fl (.int .i64 2))) rfl (og rfl (op_assign rfl rfl rfl)) ?_
          refine rg_put (d := 5) (v := .d (.fl (.int .i64 0))) rfl (og rfl (op_assign rfl rfl rfl)) ?_
          refine rg_done rfl ?_
          refine a_ret ?_
          show ∃ ds, ResL _ _ _ ds ∧ RV.of ds = _
          refine ⟨[.fl (.int .i64 2), .fl (.int .i64 0)], (.cons (.tmp rfl (.d _)) (.cons (.tmp rfl (.d _)) .nil)), ?_⟩
          rw [show rsn c = (2, 0) from by unfold rsn; simp only [h1, h3, h4, h5, h6, h8, h9, h10, Bool.true_or, Bool.false_or, Bool.or_true, Bool.or_false, Bool.not_true, Bool.not_false, cond_true, cond_false, Bool.true_and, Bool.false_and, Bool.and_true, Bool.and_false] <;> rfl]; rfl
        · skip
          have h11 := f_not h9
          refine a_skip ?_
          show A _ _ _ _ _ _ _
          refine a_seq ?_
          refine a_rseq ?_
          refine rg_put (d := 44) (v := .pt 101 7) rfl (og rfl (of_eff (s_field_pt rfl Tryz.underlying91 rfl ti77 rfl rfl rfl) rfl)) ?_
          refine rg_put (d := 45) (v := .d (.ag (eDc c.dev))) rfl (og rfl (of_eff (s_load_pts rfl Tryz.underlying77 rfl ti77 rfl rfl rfl rfl) rfl)) ?_
          refine rg_put (d := 46) (v := .d (.fl (.int .i64 ((Dw.clk c.dev c.d.time).1)))) rfl (og rfl (op_move rfl rfl rfl)) ?_
          refine rg_put (d := 47) (v := .d (.fl (.bool ((Dw.wrk c.dev ((Dw.clk c.dev c.d.time).1)))))) rfl (og rfl (op_call rfl Tryz.func92 nm92 rfl (.cons rfl (.d _) (.cons rfl (.d _) .nil)) (Dw.wrk12 c.dev ((Dw.clk c.dev c.d.time).1) hw) rfl)) ?_
          refine rg_put (d := 48) (v := .d (.fl (.bool ((!((Dw.wrk c.dev ((Dw.clk c.dev c.d.time).1)))))))) rfl (og rfl (op_un rfl rfl (u_not _) rfl)) ?_
          refine rg_done rfl ?_
          refine a_cond rfl (fun h12 => ?_) (fun h12 => ?_)
          · skip
            have h13 := t_not h12
            refine a_rseq ?_
            refine rg_put (d := 4) (v := .d (.fl (.int .i64 5))) rfl (og rfl (op_assign rfl rfl rfl)) ?_
            refine rg_put (d := 5) (v := .d (.fl (.int .i64 0))) rfl (og rfl (op_assign rfl rfl rfl)) ?_
            refine rg_done rfl ?_
            refine a_ret ?_
            show ∃ ds, ResL _ _ _ ds ∧ RV.of ds = _
            refine ⟨[.fl (.int .i64 5), .fl (.int .i64 0)], (.cons (.tmp rfl (.d _)) (.cons (.tmp rfl (.d _)) .nil)), ?_⟩
            rw [show rsn c = (5, 0) from by unfold rsn; simp only [h1, h3, h4, h5, h6, h8, h9, h11, h12, h13, Bool.true_or, Bool.false_or, Bool.or_true, Bool.or_false, Bool.not_true, Bool.not_false, cond_true, cond_false, Bool.true_and, Bool.false_and, Bool.and_true, Bool.and_false] <;> rfl]; rfl
          · skip
            have h14 := f_not h12
            refine a_skip ?_
            show A _ _ _ _ _ _ _
            refine a_exit ?_
            show A _ _ _ _ _ _ _
            refine a_rseq ?_
            refine rg_put (d := 49) (v := .d (.fl (.int .i64 ((Dw.clk c.dev c.d.time).1)))) rfl (og rfl (op_move rfl rfl rfl)) ?_
            refine rg_put (d := 4) (v := .d (.fl (.int .i64 0))) rfl (og rfl (op_assign rfl rfl rfl)) ?_
            refine rg_put (d := 5) (v := .d (.fl (.int .i64 ((Dw.clk c.dev c.d.time).1)))) rfl (og rfl (op_assign rfl rfl rfl)) ?_
            refine rg_done rfl ?_
            refine a_ret ?_
            show ∃ ds, ResL _ _ _ ds ∧ RV.of ds = _
            refine ⟨[.fl (.int .i64 0), .fl (.int .i64 ((Dw.clk c.dev c.d.time).1))], (.cons (.tmp rfl (.d _)) (.cons (.tmp rfl (.d _)) .nil)), ?_⟩
            rw [show rsn c = (0, (Dw.clk c.dev c.d.time).1) from by unfold rsn; simp only [h1, h3, h4, h5, h6, h8, h9, h11, h12, h14, Bool.true_or, Bool.false_or, Bool.or_true, Bool.or_false, Bool.not_true, Bool.not_false, cond_true, cond_false, Bool.true_and, Bool.false_and, Bool.and_true, Bool.and_false] <;> rfl]; rfl
    · skip
      have h15 := t_not h4
      refine rg_put (d := 25) (v := .d (.fl undef)) rfl (on rfl rfl rfl h4) ?_
      refine rg_put (d := 26) (v := .d (.fl undef)) rfl (on rfl rfl rfl h4) ?_
      refine rg_put (d := 27) (v := .d (.fl undef)) rfl (on rfl rfl rfl h4) ?_
      refine rg_put (d := 28) (v := .d (.fl undef)) rfl (on rfl rfl rfl h4) ?_
      refine rg_put (d := 29) (v := .d (.fl undef)) rfl (on rfl rfl rfl h4) ?_
      refine rg_put (d := 30) (v := .d (.fl undef)) rfl (on rfl rfl rfl h4) ?_
      refine rg_put (d := 31) (v := .d (.fl undef)) rfl (on rfl rfl rfl h4) ?_
      refine rg_put (d := 32) (v := .d (.fl (.bool true))) rfl (og rfl (op_pick rfl rfl (by rw [h4]; rfl) rfl)) ?_
      refine rg_done rfl ?_
      refine a_condK rfl rfl ?_
      refine a_rseq ?_
      refine rg_put (d := 4) (v := .d (.fl (.int .i64 3))) rfl (og rfl (op_assign rfl rfl rfl)) ?_
      refine rg_put (d := 5) (v := .d (.fl (.int .i64 0))) rfl (og rfl (op_assign rfl rfl rfl)) ?_
      refine rg_done rfl ?_
      refine a_ret ?_
      show ∃ ds, ResL _ _ _ ds ∧ RV.of ds = _
      refine ⟨[.fl (.int .i64 3), .fl (.int .i64 0)], (.cons (.tmp rfl (.d _)) (.cons (.tmp rfl (.d _)) .nil)), ?_⟩
      rw [show rsn c = (3, 0) from by unfold rsn; simp only [h1, h3, h4, h15, Bool.true_or, Bool.false_or, Bool.or_true, Bool.or_false, Bool.not_true, Bool.not_false, cond_true, cond_false, Bool.true_and, Bool.false_and, Bool.and_true, Bool.and_false] <;> rfl]; rfl
set_option maxHeartbeats 4000000 in
set_option maxRecDepth 100000 in
theorem crC (c : Can) (hp : c.d.plate.size ≤ 100000) (ho : c.dev.offs.length ≤ 1000) (hw : c.dev.down.length ≤ 1000) (hr : ∀ o ∈ c.dev.offs, -9223372036854775808 ≤ o.dl ∧ o.dl ≤ 9223372036854775807) : CtrK Tryz.prog KK 45 [.ag (eCan c)] (.tu [.ag (eSen (crS c)), .fl (.int .i64 (rsn c).1)]) := by
  refine ctrK (n := 28) (rs := #[.cell 2 44, .tmp 3]) (L := [(0, .d (.ag (eCan c)))]) Tryz.func45 rfl rfl rfl rfl rfl (fun w0 U0 hG => ?_)
  refine a_rseq ?_
  refine rg_nam (d := 1) (v := .pt 101 0) (m := 101) (nw := [(101, .bx 91 (eCan c))]) rfl (og rfl (of_eff (op_box 101 rfl rfl rfl rfl) rfl)) rfl ?_
  refine rg_nam (d := 2) (v := .pt 102 0) (m := 102) (nw := [(102, .bx 44 ([.fl (.string (⟨#[]⟩)), .fl (.int .i64 0), .fl (.int .i64 0), .fl (.string (⟨#[]⟩)), .fl (.string (⟨#[]⟩)), .fl (.int .i64 0), .fl (.int .i64 0), .fl (.int .i64 0), .fl (.string (⟨#[]⟩)), .fl (.int .i64 0), .fl (.int .i64 0)]))]) rfl (og rfl (of_eff (s_alloc 102 rfl ti44 (by kernel_rfl) rfl) rfl)) rfl ?_
  refine rg_put (d := 3) (v := .d (.fl (.int .i64 0))) rfl (og rfl (op_assign rfl rfl rfl)) ?_
  refine rg_done rfl ?_
  refine a_rseq ?_
  refine rg_put (d := 7) (v := .d (.ag (eCan c))) rfl (og rfl (of_eff (s_load_pts rfl Tryz.underlying91 rfl ti91 rfl rfl rfl rfl) rfl)) ?_
  refine rg_put (d := 8) (v := .tu [.fl (.int .i64 ((rsn c).1)), .fl (.int .i64 ((rsn c).2))]) rfl (og rfl (op_callK kkst hG rfl Tryz.func51 nm51 rfl (.cons rfl (.d _) (.cons rfl (.d _) .nil)) (rsC c hp ho hw hr) rfl)) ?_
  refine rg_put (d := 6) (v := .tu [.fl (.int .i64 ((rsn c).1)), .fl (.int .i64 ((rsn c).2))]) rfl (og rfl (op_move rfl rfl rfl)) ?_
  refine rg_put (d := 9) (v := .d (.fl (.int .i64 ((rsn c).1)))) rfl (og rfl (op_extract rfl rfl rfl rfl)) ?_
  refine rg_put (d := 10) (v := .d (.fl (.int .i64 ((rsn c).2)))) rfl (og rfl (op_extract rfl rfl rfl rfl)) ?_
  refine rg_put (d := 4) (v := .d (.fl (.int .i64 ((rsn c).1)))) rfl (og rfl (op_assign rfl rfl rfl)) ?_
  refine rg_put (d := 5) (v := .d (.fl (.int .i64 ((rsn c).2)))) rfl (og rfl (op_assign rfl rfl rfl)) ?_
  refine rg_done rfl ?_
  refine a_seq ?_
  refine a_rseq ?_
  refine rg_put (d := 11) (v := .d (.fl (.int .i64 ((rsn c).1)))) rfl (og rfl (op_move rfl rfl rfl)) ?_
  refine rg_put (d := 12) (v := .d (.fl (.bool (((rsn c).1 != 0))))) rfl (og rfl (op_bin rfl rfl rfl (b_neq _ _ _ _) rfl)) ?_
  refine rg_done rfl ?_
  refine a_cond rfl (fun h1 => ?_) (fun h1 => ?_)
  · skip
    have h2 := t_bne h1
    refine a_rseq ?_
    refine rg_put (d := 13) (v := .d (.ag (eSen ((Sen.mk ((Den.mk (⟨#[]⟩) 0 0 (⟨#[]⟩) (⟨#[]⟩) 0 0)) 0 (⟨#[]⟩) 0 0))))) rfl (og rfl (of_eff (op_build rfl Tryz.underlying44 ti44 rfl (by kernel_rfl) (by kernel_rfl) (pl := #[(0, 7), (7, 1), (8, 1), (9, 1), (10, 1)]) (by kernel_rfl) .nil rfl) rfl)) ?_
    refine rg_put (d := 14) (v := .d (.fl (.int .i64 ((rsn c).1)))) rfl (og rfl (op_move rfl rfl rfl)) ?_
    refine rg_sto (nw := [(102, .bx 44 ((eSen ((Sen.mk ((Den.mk (⟨#[]⟩) 0 0 (⟨#[]⟩) (⟨#[]⟩) 0 0)) 0 (⟨#[]⟩) 0 0)))))]) rfl (og rfl (of_eff (s_store rfl rfl ti44 rfl rfl rfl rfl rfl rfl) rfl)) ?_
    refine rg_put (d := 3) (v := .d (.fl (.int .i64 ((rsn c).1)))) rfl (og rfl (op_assign rfl rfl rfl)) ?_
    refine rg_done rfl ?_
    refine a_ret ?_
    show ∃ ds, ResL _ _ _ ds ∧ RV.of ds = _
    refine ⟨[.ag [.fl (.string (((Sen.mk (Den.mk (⟨#[]⟩) 0 0 (⟨#[]⟩) (⟨#[]⟩) 0 0) 0 (⟨#[]⟩) 0 0).d).dev)), .fl (.int .i64 (((Sen.mk (Den.mk (⟨#[]⟩) 0 0 (⟨#[]⟩) (⟨#[]⟩) 0 0) 0 (⟨#[]⟩) 0 0).d).seq)), .fl (.int .i64 (((Sen.mk (Den.mk (⟨#[]⟩) 0 0 (⟨#[]⟩) (⟨#[]⟩) 0 0) 0 (⟨#[]⟩) 0 0).d).time)), .fl (.string (((Sen.mk (Den.mk (⟨#[]⟩) 0 0 (⟨#[]⟩) (⟨#[]⟩) 0 0) 0 (⟨#[]⟩) 0 0).d).tag)), .fl (.string (((Sen.mk (Den.mk (⟨#[]⟩) 0 0 (⟨#[]⟩) (⟨#[]⟩) 0 0) 0 (⟨#[]⟩) 0 0).d).plate)), .fl (.int .i64 (((Sen.mk (Den.mk (⟨#[]⟩) 0 0 (⟨#[]⟩) (⟨#[]⟩) 0 0) 0 (⟨#[]⟩) 0 0).d).axl)), .fl (.int .i64 (((Sen.mk (Den.mk (⟨#[]⟩) 0 0 (⟨#[]⟩) (⟨#[]⟩) 0 0) 0 (⟨#[]⟩) 0 0).d).score)), .fl (.int .i64 ((Sen.mk (Den.mk (⟨#[]⟩) 0 0 (⟨#[]⟩) (⟨#[]⟩) 0 0) 0 (⟨#[]⟩) 0 0).time)), .fl (.string ((Sen.mk (Den.mk (⟨#[]⟩) 0 0 (⟨#[]⟩) (⟨#[]⟩) 0 0) 0 (⟨#[]⟩) 0 0).point)), .fl (.int .i64 ((Sen.mk (Den.mk (⟨#[]⟩) 0 0 (⟨#[]⟩) (⟨#[]⟩) 0 0) 0 (⟨#[]⟩) 0 0).lane)), .fl (.int .i64 ((Sen.mk (Den.mk (⟨#[]⟩) 0 0 (⟨#[]⟩) (⟨#[]⟩) 0 0) 0 (⟨#[]⟩) 0 0).kind))], .fl (.int .i64 ((rsn c).1))], (.cons (.cellT rfl rfl Tryz.underlying44 rfl ti44 rfl (Cv.ag (xs := [.fl (.string (((Sen.mk (Den.mk (⟨#[]⟩) 0 0 (⟨#[]⟩) (⟨#[]⟩) 0 0) 0 (⟨#[]⟩) 0 0).d).dev)), .fl (.int .i64 (((Sen.mk (Den.mk (⟨#[]⟩) 0 0 (⟨#[]⟩) (⟨#[]⟩) 0 0) 0 (⟨#[]⟩) 0 0).d).seq)), .fl (.int .i64 (((Sen.mk (Den.mk (⟨#[]⟩) 0 0 (⟨#[]⟩) (⟨#[]⟩) 0 0) 0 (⟨#[]⟩) 0 0).d).time)), .fl (.string (((Sen.mk (Den.mk (⟨#[]⟩) 0 0 (⟨#[]⟩) (⟨#[]⟩) 0 0) 0 (⟨#[]⟩) 0 0).d).tag)), .fl (.string (((Sen.mk (Den.mk (⟨#[]⟩) 0 0 (⟨#[]⟩) (⟨#[]⟩) 0 0) 0 (⟨#[]⟩) 0 0).d).plate)), .fl (.int .i64 (((Sen.mk (Den.mk (⟨#[]⟩) 0 0 (⟨#[]⟩) (⟨#[]⟩) 0 0) 0 (⟨#[]⟩) 0 0).d).axl)), .fl (.int .i64 (((Sen.mk (Den.mk (⟨#[]⟩) 0 0 (⟨#[]⟩) (⟨#[]⟩) 0 0) 0 (⟨#[]⟩) 0 0).d).score)), .fl (.int .i64 ((Sen.mk (Den.mk (⟨#[]⟩) 0 0 (⟨#[]⟩) (⟨#[]⟩) 0 0) 0 (⟨#[]⟩) 0 0).time)), .fl (.string ((Sen.mk (Den.mk (⟨#[]⟩) 0 0 (⟨#[]⟩) (⟨#[]⟩) 0 0) 0 (⟨#[]⟩) 0 0).point)), .fl (.int .i64 ((Sen.mk (Den.mk (⟨#[]⟩) 0 0 (⟨#[]⟩) (⟨#[]⟩) 0 0) 0 (⟨#[]⟩) 0 0).lane)), .fl (.int .i64 ((Sen.mk (Den.mk (⟨#[]⟩) 0 0 (⟨#[]⟩) (⟨#[]⟩) 0 0) 0 (⟨#[]⟩) 0 0).kind))]) (ys := [.fl (.string (((Sen.mk (Den.mk (⟨#[]⟩) 0 0 (⟨#[]⟩) (⟨#[]⟩) 0 0) 0 (⟨#[]⟩) 0 0).d).dev)), .fl (.int .i64 (((Sen.mk (Den.mk (⟨#[]⟩) 0 0 (⟨#[]⟩) (⟨#[]⟩) 0 0) 0 (⟨#[]⟩) 0 0).d).seq)), .fl (.int .i64 (((Sen.mk (Den.mk (⟨#[]⟩) 0 0 (⟨#[]⟩) (⟨#[]⟩) 0 0) 0 (⟨#[]⟩) 0 0).d).time)), .fl (.string (((Sen.mk (Den.mk (⟨#[]⟩) 0 0 (⟨#[]⟩) (⟨#[]⟩) 0 0) 0 (⟨#[]⟩) 0 0).d).tag)), .fl (.string (((Sen.mk (Den.mk (⟨#[]⟩) 0 0 (⟨#[]⟩) (⟨#[]⟩) 0 0) 0 (⟨#[]⟩) 0 0).d).plate)), .fl (.int .i64 (((Sen.mk (Den.mk (⟨#[]⟩) 0 0 (⟨#[]⟩) (⟨#[]⟩) 0 0) 0 (⟨#[]⟩) 0 0).d).axl)), .fl (.int .i64 (((Sen.mk (Den.mk (⟨#[]⟩) 0 0 (⟨#[]⟩) (⟨#[]⟩) 0 0) 0 (⟨#[]⟩) 0 0).d).score)), .fl (.int .i64 ((Sen.mk (Den.mk (⟨#[]⟩) 0 0 (⟨#[]⟩) (⟨#[]⟩) 0 0) 0 (⟨#[]⟩) 0 0).time)), .fl (.string ((Sen.mk (Den.mk (⟨#[]⟩) 0 0 (⟨#[]⟩) (⟨#[]⟩) 0 0) 0 (⟨#[]⟩) 0 0).point)), .fl (.int .i64 ((Sen.mk (Den.mk (⟨#[]⟩) 0 0 (⟨#[]⟩) (⟨#[]⟩) 0 0) 0 (⟨#[]⟩) 0 0).lane)), .fl (.int .i64 ((Sen.mk (Den.mk (⟨#[]⟩) 0 0 (⟨#[]⟩) (⟨#[]⟩) 0 0) 0 (⟨#[]⟩) 0 0).kind))]) ⟨Cv.refl _, Cv.refl _, Cv.refl _, Cv.refl _, Cv.refl _, Cv.refl _, Cv.refl _, Cv.refl _, Cv.refl _, Cv.refl _, Cv.refl _, trivial⟩)) (.cons (.tmp rfl (.d _)) .nil)), ?_⟩
    rw [cr_bad h1]; rfl
  · skip
    have h3 := f_bne h1
    refine a_skip ?_
    show A _ _ _ _ _ _ _
    refine a_rseq ?_
    refine rg_put (d := 15) (v := .pt 101 0) rfl (og rfl (of_eff (s_field_pt rfl Tryz.underlying91 rfl ti40 rfl rfl rfl) rfl)) ?_
    refine rg_put (d := 16) (v := .d (.ag (eDen c.d))) rfl (og rfl (of_eff (s_load_pts rfl Tryz.underlying40 rfl ti40 rfl rfl rfl rfl) rfl)) ?_
    refine rg_put (d := 17) (v := .d (.fl (.int .i64 ((rsn c).2)))) rfl (og rfl (op_move rfl rfl rfl)) ?_
    refine rg_put (d := 18) (v := .pt 101 7) rfl (og rfl (of_eff (s_field_pt rfl Tryz.underlying91 rfl ti77 rfl rfl rfl) rfl)) ?_
    refine rg_put (d := 19) (v := .pt 101 8) rfl (og rfl (of_eff (s_field_pt rfl Tryz.underlying77 rfl ti9 rfl rfl rfl) rfl)) ?_
    refine rg_put (d := 20) (v := .d (.fl (.string c.dev.point))) rfl (og rfl (op_load_pt rfl Tryz.underlying9 rfl rfl rfl rfl rfl)) ?_
    refine rg_put (d := 21) (v := .pt 101 7) rfl (og rfl (of_eff (s_field_pt rfl Tryz.underlying91 rfl ti77 rfl rfl rfl) rfl)) ?_
    refine rg_put (d := 22) (v := .pt 101 10) rfl (og rfl (of_eff (s_field_pt rfl Tryz.underlying77 rfl ti3 rfl rfl rfl) rfl)) ?_
    refine rg_put (d := 23) (v := .d (.fl (.int .i64 c.dev.lane))) rfl (og rfl (op_load_pt rfl Tryz.underlying3 rfl rfl rfl rfl rfl)) ?_
    refine rg_put (d := 24) (v := .pt 101 7) rfl (og rfl (of_eff (s_field_pt rfl Tryz.underlying91 rfl ti77 rfl rfl rfl) rfl)) ?_
    refine rg_put (d := 25) (v := .pt 101 9) rfl (og rfl (of_eff (s_field_pt rfl Tryz.underlying77 rfl ti3 rfl rfl rfl) rfl)) ?_
    refine rg_put (d := 26) (v := .d (.fl (.int .i64 c.dev.kind))) rfl (og rfl (op_load_pt rfl Tryz.underlying3 rfl rfl rfl rfl rfl)) ?_
    refine rg_put (d := 27) (v := .d (.ag (eSen ((Sen.mk c.d ((rsn c).2) c.dev.point c.dev.lane c.dev.kind))))) rfl (og rfl (of_eff (op_build rfl Tryz.underlying44 ti44 rfl (by kernel_rfl) (by kernel_rfl) (pl := #[(0, 7), (7, 1), (8, 1), (9, 1), (10, 1)]) (by kernel_rfl) (.cons rfl rfl (.d _) rfl rfl rfl (.cons rfl rfl (.d _) rfl rfl rfl (.cons rfl rfl (.d _) rfl rfl rfl (.cons rfl rfl (.d _) rfl rfl rfl (.cons rfl rfl (.d _) rfl rfl rfl .nil))))) rfl) rfl)) ?_
    refine rg_sto (nw := [(102, .bx 44 ((eSen ((Sen.mk c.d ((rsn c).2) c.dev.point c.dev.lane c.dev.kind)))))]) rfl (og rfl (of_eff (s_store rfl rfl ti44 rfl rfl rfl rfl rfl rfl) rfl)) ?_
    refine rg_put (d := 3) (v := .d (.fl (.int .i64 0))) rfl (og rfl (op_assign rfl rfl rfl)) ?_
    refine rg_done rfl ?_
    refine a_ret ?_
    show ∃ ds, ResL _ _ _ ds ∧ RV.of ds = _
    refine ⟨[.ag [.fl (.string (((Sen.mk c.d ((rsn c).2) c.dev.point c.dev.lane c.dev.kind).d).dev)), .fl (.int .i64 (((Sen.mk c.d ((rsn c).2) c.dev.point c.dev.lane c.dev.kind).d).seq)), .fl (.int .i64 (((Sen.mk c.d ((rsn c).2) c.dev.point c.dev.lane c.dev.kind).d).time)), .fl (.string (((Sen.mk c.d ((rsn c).2) c.dev.point c.dev.lane c.dev.kind).d).tag)), .fl (.string (((Sen.mk c.d ((rsn c).2) c.dev.point c.dev.lane c.dev.kind).d).plate)), .fl (.int .i64 (((Sen.mk c.d ((rsn c).2) c.dev.point c.dev.lane c.dev.kind).d).axl)), .fl (.int .i64 (((Sen.mk c.d ((rsn c).2) c.dev.point c.dev.lane c.dev.kind).d).score)), .fl (.int .i64 ((Sen.mk c.d ((rsn c).2) c.dev.point c.dev.lane c.dev.kind).time)), .fl (.string ((Sen.mk c.d ((rsn c).2) c.dev.point c.dev.lane c.dev.kind).point)), .fl (.int .i64 ((Sen.mk c.d ((rsn c).2) c.dev.point c.dev.lane c.dev.kind).lane)), .fl (.int .i64 ((Sen.mk c.d ((rsn c).2) c.dev.point c.dev.lane c.dev.kind).kind))], .fl (.int .i64 0)], (.cons (.cellT rfl rfl Tryz.underlying44 rfl ti44 rfl (Cv.ag (xs := [.fl (.string (((Sen.mk c.d ((rsn c).2) c.dev.point c.dev.lane c.dev.kind).d).dev)), .fl (.int .i64 (((Sen.mk c.d ((rsn c).2) c.dev.point c.dev.lane c.dev.kind).d).seq)), .fl (.int .i64 (((Sen.mk c.d ((rsn c).2) c.dev.point c.dev.lane c.dev.kind).d).time)), .fl (.string (((Sen.mk c.d ((rsn c).2) c.dev.point c.dev.lane c.dev.kind).d).tag)), .fl (.string (((Sen.mk c.d ((rsn c).2) c.dev.point c.dev.lane c.dev.kind).d).plate)), .fl (.int .i64 (((Sen.mk c.d ((rsn c).2) c.dev.point c.dev.lane c.dev.kind).d).axl)), .fl (.int .i64 (((Sen.mk c.d ((rsn c).2) c.dev.point c.dev.lane c.dev.kind).d).score)), .fl (.int .i64 ((Sen.mk c.d ((rsn c).2) c.dev.point c.dev.lane c.dev.kind).time)), .fl (.string ((Sen.mk c.d ((rsn c).2) c.dev.point c.dev.lane c.dev.kind).point)), .fl (.int .i64 ((Sen.mk c.d ((rsn c).2) c.dev.point c.dev.lane c.dev.kind).lane)), .fl (.int .i64 ((Sen.mk c.d ((rsn c).2) c.dev.point c.dev.lane c.dev.kind).kind))]) (ys := [.fl (.string (((Sen.mk c.d ((rsn c).2) c.dev.point c.dev.lane c.dev.kind).d).dev)), .fl (.int .i64 (((Sen.mk c.d ((rsn c).2) c.dev.point c.dev.lane c.dev.kind).d).seq)), .fl (.int .i64 (((Sen.mk c.d ((rsn c).2) c.dev.point c.dev.lane c.dev.kind).d).time)), .fl (.string (((Sen.mk c.d ((rsn c).2) c.dev.point c.dev.lane c.dev.kind).d).tag)), .fl (.string (((Sen.mk c.d ((rsn c).2) c.dev.point c.dev.lane c.dev.kind).d).plate)), .fl (.int .i64 (((Sen.mk c.d ((rsn c).2) c.dev.point c.dev.lane c.dev.kind).d).axl)), .fl (.int .i64 (((Sen.mk c.d ((rsn c).2) c.dev.point c.dev.lane c.dev.kind).d).score)), .fl (.int .i64 ((Sen.mk c.d ((rsn c).2) c.dev.point c.dev.lane c.dev.kind).time)), .fl (.string ((Sen.mk c.d ((rsn c).2) c.dev.point c.dev.lane c.dev.kind).point)), .fl (.int .i64 ((Sen.mk c.d ((rsn c).2) c.dev.point c.dev.lane c.dev.kind).lane)), .fl (.int .i64 ((Sen.mk c.d ((rsn c).2) c.dev.point c.dev.lane c.dev.kind).kind))]) ⟨Cv.refl _, Cv.refl _, Cv.refl _, Cv.refl _, Cv.refl _, Cv.refl _, Cv.refl _, Cv.refl _, Cv.refl _, Cv.refl _, Cv.refl _, trivial⟩)) (.cons (.tmp rfl (.d _)) .nil)), ?_⟩
    rw [cr_ok h1, show (rsn c).1 = 0 from f_bne h1]; rfl
set_option maxHeartbeats 4000000 in
set_option maxRecDepth 100000 in
theorem finC (l : List Dc) (d : Den) (hl : okL l) : Ctr Tryz.prog 44 [.sl 6 (List.map eDc l), .ag (eDen d)] (.d (.ag (eCan (fnC l d)))) := by
  refine ctr (n := 18) (rs := #[.cell 4 91]) (L := [(0, .d (.sl 6 (List.map eDc l))), (1, .d (.ag (eDen d)))]) Tryz.func44 rfl rfl rfl rfl rfl (fun w0 U0 => ?_)
  refine a_rseq ?_
  refine rg_nam (d := 3) (v := .pt 101 0) (m := 101) (nw := [(101, .bx 40 (eDen d))]) rfl (og rfl (of_eff (op_box 101 rfl rfl rfl rfl) rfl)) rfl ?_
  refine rg_nam (d := 4) (v := .pt 102 0) (m := 102) (nw := [(102, .bx 91 ([.fl (.string (⟨#[]⟩)), .fl (.int .i64 0), .fl (.int .i64 0), .fl (.string (⟨#[]⟩)), .fl (.string (⟨#[]⟩)), .fl (.int .i64 0), .fl (.int .i64 0), .fl (.string (⟨#[]⟩)), .fl (.string (⟨#[]⟩)), .fl (.int .i64 0), .fl (.int .i64 0), .fl (.slice none 0 0), .fl (.slice none 0 0), .fl (.bool false)]))]) rfl (og rfl (of_eff (s_alloc 102 rfl ti91 (by kernel_rfl) rfl) rfl)) rfl ?_
  refine rg_done rfl ?_
  refine a_rseq ?_
  refine rg_put (d := 8) (v := .d (.sl 6 (List.map eDc l))) rfl (og rfl (op_move rfl rfl rfl)) ?_
  refine rg_put (d := 9) (v := .pt 101 0) rfl (og rfl (of_eff (s_field_pt rfl Tryz.underlying40 rfl ti9 rfl rfl rfl) rfl)) ?_
  refine rg_put (d := 10) (v := .d (.fl (.string d.dev))) rfl (og rfl (op_load_pt rfl Tryz.underlying9 rfl rfl rfl rfl rfl)) ?_
  refine rg_put (d := 11) (v := .tu [.ag (eDc ((fnE l d.dev).1)), .fl (.bool ((fnE l d.dev).2))]) rfl (og rfl (op_call rfl Tryz.func82 nm82 rfl (.cons rfl (.d _) (.cons rfl (.d _) .nil)) (fndC l d.dev hl) rfl)) ?_
  refine rg_put (d := 7) (v := .tu [.ag (eDc ((fnE l d.dev).1)), .fl (.bool ((fnE l d.dev).2))]) rfl (og rfl (op_move rfl rfl rfl)) ?_
  refine rg_put (d := 12) (v := .d (.ag (eDc ((fnE l d.dev).1)))) rfl (og rfl (op_extract rfl rfl rfl rfl)) ?_
  refine rg_put (d := 13) (v := .d (.fl (.bool ((fnE l d.dev).2)))) rfl (og rfl (op_extract rfl rfl rfl rfl)) ?_
  refine rg_nam (d := 5) (v := .pt 103 0) (m := 103) (nw := [(103, .bx 77 ([.fl (.string (⟨#[]⟩)), .fl (.string (⟨#[]⟩)), .fl (.int .i64 0), .fl (.int .i64 0), .fl (.slice none 0 0), .fl (.slice none 0 0)]))]) rfl (og rfl (of_eff (s_alloc 103 rfl ti77 (by kernel_rfl) rfl) rfl)) rfl ?_
  refine rg_sto (nw := [(103, .bx 77 ((eDc ((fnE l d.dev).1))))]) rfl (og rfl (of_eff (s_store rfl rfl ti77 rfl rfl rfl rfl rfl rfl) rfl)) ?_
  refine rg_put (d := 6) (v := .d (.fl (.bool ((fnE l d.dev).2)))) rfl (og rfl (op_assign rfl rfl rfl)) ?_
  refine rg_done rfl ?_
  refine a_rseq ?_
  refine rg_put (d := 14) (v := .d (.ag (eDen d))) rfl (og rfl (of_eff (s_load_pts rfl Tryz.underlying40 rfl ti40 rfl rfl rfl rfl) rfl)) ?_
  refine rg_put (d := 15) (v := .d (.ag (eDc ((fnE l d.dev).1)))) rfl (og rfl (of_eff (s_load_pts rfl Tryz.underlying77 rfl ti77 rfl rfl rfl rfl) rfl)) ?_
  refine rg_put (d := 16) (v := .d (.fl (.bool ((fnE l d.dev).2)))) rfl (og rfl (op_move rfl rfl rfl)) ?_
  refine rg_put (d := 17) (v := .d (.ag (eCan ((Can.mk d ((Dc.mk (((fnE l d.dev).1).name) (((fnE l d.dev).1).point) (((fnE l d.dev).1).kind) (((fnE l d.dev).1).lane) (((fnE l d.dev).1).offs) (((fnE l d.dev).1).down))) ((fnE l d.dev).2)))))) rfl (og rfl (of_eff (op_build rfl Tryz.underlying91 ti91 rfl (by kernel_rfl) (by kernel_rfl) (pl := #[(0, 7), (7, 6), (13, 1)]) (by kernel_rfl) (.cons rfl rfl (.d _) rfl rfl rfl (.cons rfl rfl (.d _) rfl rfl rfl (.cons rfl rfl (.d _) rfl rfl rfl .nil))) rfl) rfl)) ?_
  refine rg_sto (nw := [(102, .bx 91 ((eCan ((Can.mk d ((Dc.mk (((fnE l d.dev).1).name) (((fnE l d.dev).1).point) (((fnE l d.dev).1).kind) (((fnE l d.dev).1).lane) (((fnE l d.dev).1).offs) (((fnE l d.dev).1).down))) ((fnE l d.dev).2))))))]) rfl (og rfl (of_eff (s_store rfl rfl ti91 rfl rfl rfl rfl rfl rfl) rfl)) ?_
  refine rg_done rfl ?_
  refine a_ret ?_
  show ∃ ds, ResL _ _ _ ds ∧ RV.of ds = _
  refine ⟨[.ag [.fl (.string (((Can.mk d (Dc.mk (((fnE l d.dev).1).name) (((fnE l d.dev).1).point) (((fnE l d.dev).1).kind) (((fnE l d.dev).1).lane) (((fnE l d.dev).1).offs) (((fnE l d.dev).1).down)) ((fnE l d.dev).2)).d).dev)), .fl (.int .i64 (((Can.mk d (Dc.mk (((fnE l d.dev).1).name) (((fnE l d.dev).1).point) (((fnE l d.dev).1).kind) (((fnE l d.dev).1).lane) (((fnE l d.dev).1).offs) (((fnE l d.dev).1).down)) ((fnE l d.dev).2)).d).seq)), .fl (.int .i64 (((Can.mk d (Dc.mk (((fnE l d.dev).1).name) (((fnE l d.dev).1).point) (((fnE l d.dev).1).kind) (((fnE l d.dev).1).lane) (((fnE l d.dev).1).offs) (((fnE l d.dev).1).down)) ((fnE l d.dev).2)).d).time)), .fl (.string (((Can.mk d (Dc.mk (((fnE l d.dev).1).name) (((fnE l d.dev).1).point) (((fnE l d.dev).1).kind) (((fnE l d.dev).1).lane) (((fnE l d.dev).1).offs) (((fnE l d.dev).1).down)) ((fnE l d.dev).2)).d).tag)), .fl (.string (((Can.mk d (Dc.mk (((fnE l d.dev).1).name) (((fnE l d.dev).1).point) (((fnE l d.dev).1).kind) (((fnE l d.dev).1).lane) (((fnE l d.dev).1).offs) (((fnE l d.dev).1).down)) ((fnE l d.dev).2)).d).plate)), .fl (.int .i64 (((Can.mk d (Dc.mk (((fnE l d.dev).1).name) (((fnE l d.dev).1).point) (((fnE l d.dev).1).kind) (((fnE l d.dev).1).lane) (((fnE l d.dev).1).offs) (((fnE l d.dev).1).down)) ((fnE l d.dev).2)).d).axl)), .fl (.int .i64 (((Can.mk d (Dc.mk (((fnE l d.dev).1).name) (((fnE l d.dev).1).point) (((fnE l d.dev).1).kind) (((fnE l d.dev).1).lane) (((fnE l d.dev).1).offs) (((fnE l d.dev).1).down)) ((fnE l d.dev).2)).d).score)), .fl (.string (((Can.mk d (Dc.mk (((fnE l d.dev).1).name) (((fnE l d.dev).1).point) (((fnE l d.dev).1).kind) (((fnE l d.dev).1).lane) (((fnE l d.dev).1).offs) (((fnE l d.dev).1).down)) ((fnE l d.dev).2)).dev).name)), .fl (.string (((Can.mk d (Dc.mk (((fnE l d.dev).1).name) (((fnE l d.dev).1).point) (((fnE l d.dev).1).kind) (((fnE l d.dev).1).lane) (((fnE l d.dev).1).offs) (((fnE l d.dev).1).down)) ((fnE l d.dev).2)).dev).point)), .fl (.int .i64 (((Can.mk d (Dc.mk (((fnE l d.dev).1).name) (((fnE l d.dev).1).point) (((fnE l d.dev).1).kind) (((fnE l d.dev).1).lane) (((fnE l d.dev).1).offs) (((fnE l d.dev).1).down)) ((fnE l d.dev).2)).dev).kind)), .fl (.int .i64 (((Can.mk d (Dc.mk (((fnE l d.dev).1).name) (((fnE l d.dev).1).point) (((fnE l d.dev).1).kind) (((fnE l d.dev).1).lane) (((fnE l d.dev).1).offs) (((fnE l d.dev).1).down)) ((fnE l d.dev).2)).dev).lane)), .sl 2 (List.map eOf (((Can.mk d (Dc.mk (((fnE l d.dev).1).name) (((fnE l d.dev).1).point) (((fnE l d.dev).1).kind) (((fnE l d.dev).1).lane) (((fnE l d.dev).1).offs) (((fnE l d.dev).1).down)) ((fnE l d.dev).2)).dev).offs)), .sl 2 (List.map eIv (((Can.mk d (Dc.mk (((fnE l d.dev).1).name) (((fnE l d.dev).1).point) (((fnE l d.dev).1).kind) (((fnE l d.dev).1).lane) (((fnE l d.dev).1).offs) (((fnE l d.dev).1).down)) ((fnE l d.dev).2)).dev).down)), .fl (.bool ((Can.mk d (Dc.mk (((fnE l d.dev).1).name) (((fnE l d.dev).1).point) (((fnE l d.dev).1).kind) (((fnE l d.dev).1).lane) (((fnE l d.dev).1).offs) (((fnE l d.dev).1).down)) ((fnE l d.dev).2)).known))]], (.cons (.cellT rfl rfl Tryz.underlying91 rfl ti91 rfl (Cv.ag (xs := [.fl (.string (((Can.mk d (Dc.mk (((fnE l d.dev).1).name) (((fnE l d.dev).1).point) (((fnE l d.dev).1).kind) (((fnE l d.dev).1).lane) (((fnE l d.dev).1).offs) (((fnE l d.dev).1).down)) ((fnE l d.dev).2)).d).dev)), .fl (.int .i64 (((Can.mk d (Dc.mk (((fnE l d.dev).1).name) (((fnE l d.dev).1).point) (((fnE l d.dev).1).kind) (((fnE l d.dev).1).lane) (((fnE l d.dev).1).offs) (((fnE l d.dev).1).down)) ((fnE l d.dev).2)).d).seq)), .fl (.int .i64 (((Can.mk d (Dc.mk (((fnE l d.dev).1).name) (((fnE l d.dev).1).point) (((fnE l d.dev).1).kind) (((fnE l d.dev).1).lane) (((fnE l d.dev).1).offs) (((fnE l d.dev).1).down)) ((fnE l d.dev).2)).d).time)), .fl (.string (((Can.mk d (Dc.mk (((fnE l d.dev).1).name) (((fnE l d.dev).1).point) (((fnE l d.dev).1).kind) (((fnE l d.dev).1).lane) (((fnE l d.dev).1).offs) (((fnE l d.dev).1).down)) ((fnE l d.dev).2)).d).tag)), .fl (.string (((Can.mk d (Dc.mk (((fnE l d.dev).1).name) (((fnE l d.dev).1).point) (((fnE l d.dev).1).kind) (((fnE l d.dev).1).lane) (((fnE l d.dev).1).offs) (((fnE l d.dev).1).down)) ((fnE l d.dev).2)).d).plate)), .fl (.int .i64 (((Can.mk d (Dc.mk (((fnE l d.dev).1).name) (((fnE l d.dev).1).point) (((fnE l d.dev).1).kind) (((fnE l d.dev).1).lane) (((fnE l d.dev).1).offs) (((fnE l d.dev).1).down)) ((fnE l d.dev).2)).d).axl)), .fl (.int .i64 (((Can.mk d (Dc.mk (((fnE l d.dev).1).name) (((fnE l d.dev).1).point) (((fnE l d.dev).1).kind) (((fnE l d.dev).1).lane) (((fnE l d.dev).1).offs) (((fnE l d.dev).1).down)) ((fnE l d.dev).2)).d).score)), .fl (.string (((Can.mk d (Dc.mk (((fnE l d.dev).1).name) (((fnE l d.dev).1).point) (((fnE l d.dev).1).kind) (((fnE l d.dev).1).lane) (((fnE l d.dev).1).offs) (((fnE l d.dev).1).down)) ((fnE l d.dev).2)).dev).name)), .fl (.string (((Can.mk d (Dc.mk (((fnE l d.dev).1).name) (((fnE l d.dev).1).point) (((fnE l d.dev).1).kind) (((fnE l d.dev).1).lane) (((fnE l d.dev).1).offs) (((fnE l d.dev).1).down)) ((fnE l d.dev).2)).dev).point)), .fl (.int .i64 (((Can.mk d (Dc.mk (((fnE l d.dev).1).name) (((fnE l d.dev).1).point) (((fnE l d.dev).1).kind) (((fnE l d.dev).1).lane) (((fnE l d.dev).1).offs) (((fnE l d.dev).1).down)) ((fnE l d.dev).2)).dev).kind)), .fl (.int .i64 (((Can.mk d (Dc.mk (((fnE l d.dev).1).name) (((fnE l d.dev).1).point) (((fnE l d.dev).1).kind) (((fnE l d.dev).1).lane) (((fnE l d.dev).1).offs) (((fnE l d.dev).1).down)) ((fnE l d.dev).2)).dev).lane)), .sl 2 (List.map eOf (((Can.mk d (Dc.mk (((fnE l d.dev).1).name) (((fnE l d.dev).1).point) (((fnE l d.dev).1).kind) (((fnE l d.dev).1).lane) (((fnE l d.dev).1).offs) (((fnE l d.dev).1).down)) ((fnE l d.dev).2)).dev).offs)), .sl 2 (List.map eIv (((Can.mk d (Dc.mk (((fnE l d.dev).1).name) (((fnE l d.dev).1).point) (((fnE l d.dev).1).kind) (((fnE l d.dev).1).lane) (((fnE l d.dev).1).offs) (((fnE l d.dev).1).down)) ((fnE l d.dev).2)).dev).down)), .fl (.bool ((Can.mk d (Dc.mk (((fnE l d.dev).1).name) (((fnE l d.dev).1).point) (((fnE l d.dev).1).kind) (((fnE l d.dev).1).lane) (((fnE l d.dev).1).offs) (((fnE l d.dev).1).down)) ((fnE l d.dev).2)).known))]) (ys := [.fl (.string (((Can.mk d (Dc.mk (((fnE l d.dev).1).name) (((fnE l d.dev).1).point) (((fnE l d.dev).1).kind) (((fnE l d.dev).1).lane) (((fnE l d.dev).1).offs) (((fnE l d.dev).1).down)) ((fnE l d.dev).2)).d).dev)), .fl (.int .i64 (((Can.mk d (Dc.mk (((fnE l d.dev).1).name) (((fnE l d.dev).1).point) (((fnE l d.dev).1).kind) (((fnE l d.dev).1).lane) (((fnE l d.dev).1).offs) (((fnE l d.dev).1).down)) ((fnE l d.dev).2)).d).seq)), .fl (.int .i64 (((Can.mk d (Dc.mk (((fnE l d.dev).1).name) (((fnE l d.dev).1).point) (((fnE l d.dev).1).kind) (((fnE l d.dev).1).lane) (((fnE l d.dev).1).offs) (((fnE l d.dev).1).down)) ((fnE l d.dev).2)).d).time)), .fl (.string (((Can.mk d (Dc.mk (((fnE l d.dev).1).name) (((fnE l d.dev).1).point) (((fnE l d.dev).1).kind) (((fnE l d.dev).1).lane) (((fnE l d.dev).1).offs) (((fnE l d.dev).1).down)) ((fnE l d.dev).2)).d).tag)), .fl (.string (((Can.mk d (Dc.mk (((fnE l d.dev).1).name) (((fnE l d.dev).1).point) (((fnE l d.dev).1).kind) (((fnE l d.dev).1).lane) (((fnE l d.dev).1).offs) (((fnE l d.dev).1).down)) ((fnE l d.dev).2)).d).plate)), .fl (.int .i64 (((Can.mk d (Dc.mk (((fnE l d.dev).1).name) (((fnE l d.dev).1).point) (((fnE l d.dev).1).kind) (((fnE l d.dev).1).lane) (((fnE l d.dev).1).offs) (((fnE l d.dev).1).down)) ((fnE l d.dev).2)).d).axl)), .fl (.int .i64 (((Can.mk d (Dc.mk (((fnE l d.dev).1).name) (((fnE l d.dev).1).point) (((fnE l d.dev).1).kind) (((fnE l d.dev).1).lane) (((fnE l d.dev).1).offs) (((fnE l d.dev).1).down)) ((fnE l d.dev).2)).d).score)), .fl (.string (((Can.mk d (Dc.mk (((fnE l d.dev).1).name) (((fnE l d.dev).1).point) (((fnE l d.dev).1).kind) (((fnE l d.dev).1).lane) (((fnE l d.dev).1).offs) (((fnE l d.dev).1).down)) ((fnE l d.dev).2)).dev).name)), .fl (.string (((Can.mk d (Dc.mk (((fnE l d.dev).1).name) (((fnE l d.dev).1).point) (((fnE l d.dev).1).kind) (((fnE l d.dev).1).lane) (((fnE l d.dev).1).offs) (((fnE l d.dev).1).down)) ((fnE l d.dev).2)).dev).point)), .fl (.int .i64 (((Can.mk d (Dc.mk (((fnE l d.dev).1).name) (((fnE l d.dev).1).point) (((fnE l d.dev).1).kind) (((fnE l d.dev).1).lane) (((fnE l d.dev).1).offs) (((fnE l d.dev).1).down)) ((fnE l d.dev).2)).dev).kind)), .fl (.int .i64 (((Can.mk d (Dc.mk (((fnE l d.dev).1).name) (((fnE l d.dev).1).point) (((fnE l d.dev).1).kind) (((fnE l d.dev).1).lane) (((fnE l d.dev).1).offs) (((fnE l d.dev).1).down)) ((fnE l d.dev).2)).dev).lane)), .sl 2 (List.map eOf (((Can.mk d (Dc.mk (((fnE l d.dev).1).name) (((fnE l d.dev).1).point) (((fnE l d.dev).1).kind) (((fnE l d.dev).1).lane) (((fnE l d.dev).1).offs) (((fnE l d.dev).1).down)) ((fnE l d.dev).2)).dev).offs)), .sl 2 (List.map eIv (((Can.mk d (Dc.mk (((fnE l d.dev).1).name) (((fnE l d.dev).1).point) (((fnE l d.dev).1).kind) (((fnE l d.dev).1).lane) (((fnE l d.dev).1).offs) (((fnE l d.dev).1).down)) ((fnE l d.dev).2)).dev).down)), .fl (.bool ((Can.mk d (Dc.mk (((fnE l d.dev).1).name) (((fnE l d.dev).1).point) (((fnE l d.dev).1).kind) (((fnE l d.dev).1).lane) (((fnE l d.dev).1).offs) (((fnE l d.dev).1).down)) ((fnE l d.dev).2)).known))]) ⟨Cv.refl _, Cv.refl _, Cv.refl _, Cv.refl _, Cv.refl _, Cv.refl _, Cv.refl _, Cv.refl _, Cv.refl _, Cv.refl _, Cv.refl _, Cv.refl _, Cv.refl _, Cv.refl _, trivial⟩)) .nil), ?_⟩
  rfl
set_option maxHeartbeats 4000000 in
set_option maxRecDepth 100000 in
theorem corP (l : List Dc) (d : Den) (hl : okL l) (hp : d.plate.size ≤ 100000) : CtrK Tryz.prog KK 16 [.sl 6 (List.map eDc l), .ag (eDen d)] (.tu [.ag (eSen (crS (fnC l d))), .fl (.int .i64 (rsn (fnC l d)).1)]) := by
  refine ctrK (n := 12) (rs := #[.cell 4 44, .tmp 5]) (L := [(0, .d (.sl 6 (List.map eDc l))), (1, .d (.ag (eDen d)))]) Tryz.func16 rfl rfl rfl rfl rfl (fun w0 U0 hG => ?_)
  refine a_rseq ?_
  refine rg_nam (d := 3) (v := .pt 101 0) (m := 101) (nw := [(101, .bx 40 (eDen d))]) rfl (og rfl (of_eff (op_box 101 rfl rfl rfl rfl) rfl)) rfl ?_
  refine rg_nam (d := 4) (v := .pt 102 0) (m := 102) (nw := [(102, .bx 44 ([.fl (.string (⟨#[]⟩)), .fl (.int .i64 0), .fl (.int .i64 0), .fl (.string (⟨#[]⟩)), .fl (.string (⟨#[]⟩)), .fl (.int .i64 0), .fl (.int .i64 0), .fl (.int .i64 0), .fl (.string (⟨#[]⟩)), .fl (.int .i64 0), .fl (.int .i64 0)]))]) rfl (og rfl (of_eff (s_alloc 102 rfl ti44 (by kernel_rfl) rfl) rfl)) rfl ?_
  refine rg_put (d := 5) (v := .d (.fl (.int .i64 0))) rfl (og rfl (op_assign rfl rfl rfl)) ?_
  refine rg_done rfl ?_
  refine a_rseq ?_
  obtain ⟨hg1, hg2, hg3⟩ := fnE_ok hl d.dev
  refine rg_put (d := 6) (v := .d (.sl 6 (List.map eDc l))) rfl (og rfl (op_move rfl rfl rfl)) ?_
  refine rg_put (d := 7) (v := .d (.ag (eDen d))) rfl (og rfl (of_eff (s_load_pts rfl Tryz.underlying40 rfl ti40 rfl rfl rfl rfl) rfl)) ?_
  refine rg_put (d := 8) (v := .d (.ag (eCan (fnC l d)))) rfl (og rfl (op_call rfl Tryz.func44 nm44 rfl (.cons rfl (.d _) (.cons rfl (.d _) .nil)) (finC l d hl) rfl)) ?_
  refine rg_put (d := 9) (v := .tu [.ag (eSen ((crS (fnC l d)))), .fl (.int .i64 ((rsn (fnC l d)).1))]) rfl (og rfl (op_callK kkst hG rfl Tryz.func45 nm45 rfl (.cons rfl (.d _) .nil) ((crC (fnC l d) hp hg1 hg2 hg3)) rfl)) ?_
  refine rg_put (d := 10) (v := .d (.ag (eSen ((crS (fnC l d)))))) rfl (og rfl (op_extract rfl rfl rfl rfl)) ?_
  refine rg_put (d := 11) (v := .d (.fl (.int .i64 ((rsn (fnC l d)).1)))) rfl (og rfl (op_extract rfl rfl rfl rfl)) ?_
  refine rg_sto (nw := [(102, .bx 44 ((eSen ((crS (fnC l d))))))]) rfl (og rfl (of_eff (s_store rfl rfl ti44 rfl rfl rfl rfl rfl rfl) rfl)) ?_
  refine rg_put (d := 5) (v := .d (.fl (.int .i64 ((rsn (fnC l d)).1)))) rfl (og rfl (op_assign rfl rfl rfl)) ?_
  refine rg_done rfl ?_
  refine a_ret ?_
  show ∃ ds, ResL _ _ _ ds ∧ RV.of ds = _
  refine ⟨[.ag [.fl (.string (((crS (fnC l d)).d).dev)), .fl (.int .i64 (((crS (fnC l d)).d).seq)), .fl (.int .i64 (((crS (fnC l d)).d).time)), .fl (.string (((crS (fnC l d)).d).tag)), .fl (.string (((crS (fnC l d)).d).plate)), .fl (.int .i64 (((crS (fnC l d)).d).axl)), .fl (.int .i64 (((crS (fnC l d)).d).score)), .fl (.int .i64 ((crS (fnC l d)).time)), .fl (.string ((crS (fnC l d)).point)), .fl (.int .i64 ((crS (fnC l d)).lane)), .fl (.int .i64 ((crS (fnC l d)).kind))], .fl (.int .i64 ((rsn (fnC l d)).1))], (.cons (.cellT rfl rfl Tryz.underlying44 rfl ti44 rfl (Cv.ag (xs := [.fl (.string (((crS (fnC l d)).d).dev)), .fl (.int .i64 (((crS (fnC l d)).d).seq)), .fl (.int .i64 (((crS (fnC l d)).d).time)), .fl (.string (((crS (fnC l d)).d).tag)), .fl (.string (((crS (fnC l d)).d).plate)), .fl (.int .i64 (((crS (fnC l d)).d).axl)), .fl (.int .i64 (((crS (fnC l d)).d).score)), .fl (.int .i64 ((crS (fnC l d)).time)), .fl (.string ((crS (fnC l d)).point)), .fl (.int .i64 ((crS (fnC l d)).lane)), .fl (.int .i64 ((crS (fnC l d)).kind))]) (ys := [.fl (.string (((crS (fnC l d)).d).dev)), .fl (.int .i64 (((crS (fnC l d)).d).seq)), .fl (.int .i64 (((crS (fnC l d)).d).time)), .fl (.string (((crS (fnC l d)).d).tag)), .fl (.string (((crS (fnC l d)).d).plate)), .fl (.int .i64 (((crS (fnC l d)).d).axl)), .fl (.int .i64 (((crS (fnC l d)).d).score)), .fl (.int .i64 ((crS (fnC l d)).time)), .fl (.string ((crS (fnC l d)).point)), .fl (.int .i64 ((crS (fnC l d)).lane)), .fl (.int .i64 ((crS (fnC l d)).kind))]) ⟨Cv.refl _, Cv.refl _, Cv.refl _, Cv.refl _, Cv.refl _, Cv.refl _, Cv.refl _, Cv.refl _, Cv.refl _, Cv.refl _, Cv.refl _, trivial⟩)) (.cons (.tmp rfl (.d _)) .nil)), ?_⟩
  rfl
set_option maxHeartbeats 4000000 in
set_option maxRecDepth 100000 in
theorem chkP (l : List Dc) (d : Den) (hl : okL l) (hp : d.plate.size ≤ 100000) : CtrK Tryz.prog KK 19 [.sl 6 (List.map eDc l), .ag (eDen d)] (.d (.fl (.int .i64 ((rsn (fnC l d)).1)))) := by
  refine ctrK (n := 15) (rs := #[.tmp 4]) (L := [(0, .d (.sl 6 (List.map eDc l))), (1, .d (.ag (eDen d)))]) Tryz.func19 rfl rfl rfl rfl rfl (fun w0 U0 hG => ?_)
  refine a_rseq ?_
  refine rg_nam (d := 3) (v := .pt 101 0) (m := 101) (nw := [(101, .bx 40 (eDen d))]) rfl (og rfl (of_eff (op_box 101 rfl rfl rfl rfl) rfl)) rfl ?_
  refine rg_put (d := 4) (v := .d (.fl (.int .i64 0))) rfl (og rfl (op_assign rfl rfl rfl)) ?_
  refine rg_done rfl ?_
  refine a_rseq ?_
  obtain ⟨hg1, hg2, hg3⟩ := fnE_ok hl d.dev
  refine rg_put (d := 8) (v := .d (.sl 6 (List.map eDc l))) rfl (og rfl (op_move rfl rfl rfl)) ?_
  refine rg_put (d := 9) (v := .d (.ag (eDen d))) rfl (og rfl (of_eff (s_load_pts rfl Tryz.underlying40 rfl ti40 rfl rfl rfl rfl) rfl)) ?_
  refine rg_put (d := 10) (v := .d (.ag (eCan (fnC l d)))) rfl (og rfl (op_call rfl Tryz.func44 nm44 rfl (.cons rfl (.d _) (.cons rfl (.d _) .nil)) (finC l d hl) rfl)) ?_
  refine rg_put (d := 11) (v := .tu [.fl (.int .i64 ((rsn (fnC l d)).1)), .fl (.int .i64 ((rsn (fnC l d)).2))]) rfl (og rfl (op_callK kkst hG rfl Tryz.func51 nm51 rfl (.cons rfl (.d _) (.cons rfl (.d _) .nil)) ((rsC (fnC l d) hp hg1 hg2 hg3)) rfl)) ?_
  refine rg_put (d := 7) (v := .tu [.fl (.int .i64 ((rsn (fnC l d)).1)), .fl (.int .i64 ((rsn (fnC l d)).2))]) rfl (og rfl (op_move rfl rfl rfl)) ?_
  refine rg_put (d := 12) (v := .d (.fl (.int .i64 ((rsn (fnC l d)).1)))) rfl (og rfl (op_extract rfl rfl rfl rfl)) ?_
  refine rg_put (d := 13) (v := .d (.fl (.int .i64 ((rsn (fnC l d)).2)))) rfl (og rfl (op_extract rfl rfl rfl rfl)) ?_
  refine rg_put (d := 5) (v := .d (.fl (.int .i64 ((rsn (fnC l d)).1)))) rfl (og rfl (op_assign rfl rfl rfl)) ?_
  refine rg_put (d := 6) (v := .d (.fl (.int .i64 ((rsn (fnC l d)).2)))) rfl (og rfl (op_assign rfl rfl rfl)) ?_
  refine rg_done rfl ?_
  refine a_rseq ?_
  refine rg_put (d := 14) (v := .d (.fl (.int .i64 ((rsn (fnC l d)).1)))) rfl (og rfl (op_move rfl rfl rfl)) ?_
  refine rg_put (d := 4) (v := .d (.fl (.int .i64 ((rsn (fnC l d)).1)))) rfl (og rfl (op_assign rfl rfl rfl)) ?_
  refine rg_done rfl ?_
  refine a_ret ?_
  show ∃ ds, ResL _ _ _ ds ∧ RV.of ds = _
  refine ⟨[.fl (.int .i64 ((rsn (fnC l d)).1))], (.cons (.tmp rfl (.d _)) .nil), ?_⟩
  rfl
set_option maxHeartbeats 4000000 in
set_option maxRecDepth 100000 in
theorem corR (l : List Dc) (d : Den) (hl : okL l) (hp : d.plate.size ≤ 100000) : Ctr Tryz.prog 17 [.sl 6 (List.map eDc l), .ag (eDen d)] (.tu [.ag (eSen (crS (fnC l d))), .fl (.int .i64 (rsn (fnC l d)).1)]) := by
  refine ctr (n := 70) (rs := #[.cell 4 44, .tmp 5]) (L := [(0, .d (.sl 6 (List.map eDc l))), (1, .d (.ag (eDen d)))]) Tryz.func17 rfl rfl rfl rfl rfl (fun w0 U0 => ?_)
  refine a_rseq ?_
  refine rg_nam (d := 3) (v := .pt 101 0) (m := 101) (nw := [(101, .bx 40 (eDen d))]) rfl (og rfl (of_eff (op_box 101 rfl rfl rfl rfl) rfl)) rfl ?_
  refine rg_nam (d := 4) (v := .pt 102 0) (m := 102) (nw := [(102, .bx 44 ([.fl (.string (⟨#[]⟩)), .fl (.int .i64 0), .fl (.int .i64 0), .fl (.string (⟨#[]⟩)), .fl (.string (⟨#[]⟩)), .fl (.int .i64 0), .fl (.int .i64 0), .fl (.int .i64 0), .fl (.string (⟨#[]⟩)), .fl (.int .i64 0), .fl (.int .i64 0)]))]) rfl (og rfl (of_eff (s_alloc 102 rfl ti44 (by kernel_rfl) rfl) rfl)) rfl ?_
  refine rg_put (d := 5) (v := .d (.fl (.int .i64 0))) rfl (og rfl (op_assign rfl rfl rfl)) ?_
  refine rg_done rfl ?_
  refine a_rseq ?_
  obtain ⟨hg1, hg2, hg3⟩ := fnE_ok hl d.dev
  refine rg_put (d := 11) (v := .d (.sl 6 (List.map eDc l))) rfl (og rfl (op_move rfl rfl rfl)) ?_
  refine rg_put (d := 12) (v := .pt 101 0) rfl (og rfl (of_eff (s_field_pt rfl Tryz.underlying40 rfl ti9 rfl rfl rfl) rfl)) ?_
  refine rg_put (d := 13) (v := .d (.fl (.string d.dev))) rfl (og rfl (op_load_pt rfl Tryz.underlying9 rfl rfl rfl rfl rfl)) ?_
  refine rg_put (d := 14) (v := .tu [.ag (eDc ((fnE l d.dev).1)), .fl (.bool ((fnE l d.dev).2))]) rfl (og rfl (op_call rfl Tryz.func46 nm46 rfl (.cons rfl (.d _) (.cons rfl (.d _) .nil)) (fndR l d.dev hl) rfl)) ?_
  refine rg_put (d := 10) (v := .tu [.ag (eDc ((fnE l d.dev).1)), .fl (.bool ((fnE l d.dev).2))]) rfl (og rfl (op_move rfl rfl rfl)) ?_
  refine rg_put (d := 15) (v := .d (.ag (eDc ((fnE l d.dev).1)))) rfl (og rfl (op_extract rfl rfl rfl rfl)) ?_
  refine rg_put (d := 16) (v := .d (.fl (.bool ((fnE l d.dev).2)))) rfl (og rfl (op_extract rfl rfl rfl rfl)) ?_
  refine rg_nam (d := 6) (v := .pt 103 0) (m := 103) (nw := [(103, .bx 77 ([.fl (.string (⟨#[]⟩)), .fl (.string (⟨#[]⟩)), .fl (.int .i64 0), .fl (.int .i64 0), .fl (.slice none 0 0), .fl (.slice none 0 0)]))]) rfl (og rfl (of_eff (s_alloc 103 rfl ti77 (by kernel_rfl) rfl) rfl)) rfl ?_
  refine rg_sto (nw := [(103, .bx 77 ((eDc ((fnE l d.dev).1))))]) rfl (og rfl (of_eff (s_store rfl rfl ti77 rfl rfl rfl rfl rfl rfl) rfl)) ?_
  refine rg_put (d := 7) (v := .d (.fl (.bool ((fnE l d.dev).2)))) rfl (og rfl (op_assign rfl rfl rfl)) ?_
  refine rg_done rfl ?_
  refine a_seq ?_
  refine a_rseq ?_
  refine rg_put (d := 17) (v := .d (.fl (.bool ((fnE l d.dev).2)))) rfl (og rfl (op_move rfl rfl rfl)) ?_
  refine rg_put (d := 18) (v := .d (.fl (.bool ((!((fnE l d.dev).2)))))) rfl (og rfl (op_un rfl rfl (u_not _) rfl)) ?_
  refine rg_done rfl ?_
  refine a_cond rfl (fun h1 => ?_) (fun h1 => ?_)
  · skip
    have h2 := t_not h1
    refine a_rseq ?_
    refine rg_put (d := 19) (v := .d (.ag (eSen ((Sen.mk ((Den.mk (⟨#[]⟩) 0 0 (⟨#[]⟩) (⟨#[]⟩) 0 0)) 0 (⟨#[]⟩) 0 0))))) rfl (og rfl (of_eff (op_build rfl Tryz.underlying44 ti44 rfl (by kernel_rfl) (by kernel_rfl) (pl := #[(0, 7), (7, 1), (8, 1), (9, 1), (10, 1)]) (by kernel_rfl) .nil rfl) rfl)) ?_
    refine rg_sto (nw := [(102, .bx 44 ((eSen ((Sen.mk ((Den.mk (⟨#[]⟩) 0 0 (⟨#[]⟩) (⟨#[]⟩) 0 0)) 0 (⟨#[]⟩) 0 0)))))]) rfl (og rfl (of_eff (s_store rfl rfl ti44 rfl rfl rfl rfl rfl rfl) rfl)) ?_
    refine rg_put (d := 5) (v := .d (.fl (.int .i64 1))) rfl (og rfl (op_assign rfl rfl rfl)) ?_
    refine rg_done rfl ?_
    refine a_ret ?_
    show ∃ ds, ResL _ _ _ ds ∧ RV.of ds = _
    refine ⟨[.ag [.fl (.string (((Sen.mk (Den.mk (⟨#[]⟩) 0 0 (⟨#[]⟩) (⟨#[]⟩) 0 0) 0 (⟨#[]⟩) 0 0).d).dev)), .fl (.int .i64 (((Sen.mk (Den.mk (⟨#[]⟩) 0 0 (⟨#[]⟩) (⟨#[]⟩) 0 0) 0 (⟨#[]⟩) 0 0).d).seq)), .fl (.int .i64 (((Sen.mk (Den.mk (⟨#[]⟩) 0 0 (⟨#[]⟩) (⟨#[]⟩) 0 0) 0 (⟨#[]⟩) 0 0).d).time)), .fl (.string (((Sen.mk (Den.mk (⟨#[]⟩) 0 0 (⟨#[]⟩) (⟨#[]⟩) 0 0) 0 (⟨#[]⟩) 0 0).d).tag)), .fl (.string (((Sen.mk (Den.mk (⟨#[]⟩) 0 0 (⟨#[]⟩) (⟨#[]⟩) 0 0) 0 (⟨#[]⟩) 0 0).d).plate)), .fl (.int .i64 (((Sen.mk (Den.mk (⟨#[]⟩) 0 0 (⟨#[]⟩) (⟨#[]⟩) 0 0) 0 (⟨#[]⟩) 0 0).d).axl)), .fl (.int .i64 (((Sen.mk (Den.mk (⟨#[]⟩) 0 0 (⟨#[]⟩) (⟨#[]⟩) 0 0) 0 (⟨#[]⟩) 0 0).d).score)), .fl (.int .i64 ((Sen.mk (Den.mk (⟨#[]⟩) 0 0 (⟨#[]⟩) (⟨#[]⟩) 0 0) 0 (⟨#[]⟩) 0 0).time)), .fl (.string ((Sen.mk (Den.mk (⟨#[]⟩) 0 0 (⟨#[]⟩) (⟨#[]⟩) 0 0) 0 (⟨#[]⟩) 0 0).point)), .fl (.int .i64 ((Sen.mk (Den.mk (⟨#[]⟩) 0 0 (⟨#[]⟩) (⟨#[]⟩) 0 0) 0 (⟨#[]⟩) 0 0).lane)), .fl (.int .i64 ((Sen.mk (Den.mk (⟨#[]⟩) 0 0 (⟨#[]⟩) (⟨#[]⟩) 0 0) 0 (⟨#[]⟩) 0 0).kind))], .fl (.int .i64 1)], (.cons (.cellT rfl rfl Tryz.underlying44 rfl ti44 rfl (Cv.ag (xs := [.fl (.string (((Sen.mk (Den.mk (⟨#[]⟩) 0 0 (⟨#[]⟩) (⟨#[]⟩) 0 0) 0 (⟨#[]⟩) 0 0).d).dev)), .fl (.int .i64 (((Sen.mk (Den.mk (⟨#[]⟩) 0 0 (⟨#[]⟩) (⟨#[]⟩) 0 0) 0 (⟨#[]⟩) 0 0).d).seq)), .fl (.int .i64 (((Sen.mk (Den.mk (⟨#[]⟩) 0 0 (⟨#[]⟩) (⟨#[]⟩) 0 0) 0 (⟨#[]⟩) 0 0).d).time)), .fl (.string (((Sen.mk (Den.mk (⟨#[]⟩) 0 0 (⟨#[]⟩) (⟨#[]⟩) 0 0) 0 (⟨#[]⟩) 0 0).d).tag)), .fl (.string (((Sen.mk (Den.mk (⟨#[]⟩) 0 0 (⟨#[]⟩) (⟨#[]⟩) 0 0) 0 (⟨#[]⟩) 0 0).d).plate)), .fl (.int .i64 (((Sen.mk (Den.mk (⟨#[]⟩) 0 0 (⟨#[]⟩) (⟨#[]⟩) 0 0) 0 (⟨#[]⟩) 0 0).d).axl)), .fl (.int .i64 (((Sen.mk (Den.mk (⟨#[]⟩) 0 0 (⟨#[]⟩) (⟨#[]⟩) 0 0) 0 (⟨#[]⟩) 0 0).d).score)), .fl (.int .i64 ((Sen.mk (Den.mk (⟨#[]⟩) 0 0 (⟨#[]⟩) (⟨#[]⟩) 0 0) 0 (⟨#[]⟩) 0 0).time)), .fl (.string ((Sen.mk (Den.mk (⟨#[]⟩) 0 0 (⟨#[]⟩) (⟨#[]⟩) 0 0) 0 (⟨#[]⟩) 0 0).point)), .fl (.int .i64 ((Sen.mk (Den.mk (⟨#[]⟩) 0 0 (⟨#[]⟩) (⟨#[]⟩) 0 0) 0 (⟨#[]⟩) 0 0).lane)), .fl (.int .i64 ((Sen.mk (Den.mk (⟨#[]⟩) 0 0 (⟨#[]⟩) (⟨#[]⟩) 0 0) 0 (⟨#[]⟩) 0 0).kind))]) (ys := [.fl (.string (((Sen.mk (Den.mk (⟨#[]⟩) 0 0 (⟨#[]⟩) (⟨#[]⟩) 0 0) 0 (⟨#[]⟩) 0 0).d).dev)), .fl (.int .i64 (((Sen.mk (Den.mk (⟨#[]⟩) 0 0 (⟨#[]⟩) (⟨#[]⟩) 0 0) 0 (⟨#[]⟩) 0 0).d).seq)), .fl (.int .i64 (((Sen.mk (Den.mk (⟨#[]⟩) 0 0 (⟨#[]⟩) (⟨#[]⟩) 0 0) 0 (⟨#[]⟩) 0 0).d).time)), .fl (.string (((Sen.mk (Den.mk (⟨#[]⟩) 0 0 (⟨#[]⟩) (⟨#[]⟩) 0 0) 0 (⟨#[]⟩) 0 0).d).tag)), .fl (.string (((Sen.mk (Den.mk (⟨#[]⟩) 0 0 (⟨#[]⟩) (⟨#[]⟩) 0 0) 0 (⟨#[]⟩) 0 0).d).plate)), .fl (.int .i64 (((Sen.mk (Den.mk (⟨#[]⟩) 0 0 (⟨#[]⟩) (⟨#[]⟩) 0 0) 0 (⟨#[]⟩) 0 0).d).axl)), .fl (.int .i64 (((Sen.mk (Den.mk (⟨#[]⟩) 0 0 (⟨#[]⟩) (⟨#[]⟩) 0 0) 0 (⟨#[]⟩) 0 0).d).score)), .fl (.int .i64 ((Sen.mk (Den.mk (⟨#[]⟩) 0 0 (⟨#[]⟩) (⟨#[]⟩) 0 0) 0 (⟨#[]⟩) 0 0).time)), .fl (.string ((Sen.mk (Den.mk (⟨#[]⟩) 0 0 (⟨#[]⟩) (⟨#[]⟩) 0 0) 0 (⟨#[]⟩) 0 0).point)), .fl (.int .i64 ((Sen.mk (Den.mk (⟨#[]⟩) 0 0 (⟨#[]⟩) (⟨#[]⟩) 0 0) 0 (⟨#[]⟩) 0 0).lane)), .fl (.int .i64 ((Sen.mk (Den.mk (⟨#[]⟩) 0 0 (⟨#[]⟩) (⟨#[]⟩) 0 0) 0 (⟨#[]⟩) 0 0).kind))]) ⟨Cv.refl _, Cv.refl _, Cv.refl _, Cv.refl _, Cv.refl _, Cv.refl _, Cv.refl _, Cv.refl _, Cv.refl _, Cv.refl _, Cv.refl _, trivial⟩)) (.cons (.tmp rfl (.d _)) .nil)), ?_⟩
    have hu : rsn (fnC l d) = (1, 0) := by unfold rsn fnC; simp only [h1, h2, Bool.true_or, Bool.false_or, Bool.or_true, Bool.or_false, Bool.not_true, Bool.not_false, cond_true, cond_false, Bool.true_and, Bool.false_and, Bool.and_true, Bool.and_false] <;> rfl
    rw [rs_cr hu (by decide), hu]; rfl
  · skip
    have h3 := f_not h1
    refine a_skip ?_
    show A _ _ _ _ _ _ _
    refine a_seq ?_
    refine a_rseq ?_
    refine rg_put (d := 20) (v := .pt 101 1) rfl (og rfl (of_eff (s_field_pt rfl Tryz.underlying40 rfl ti3 rfl rfl rfl) rfl)) ?_
    refine rg_put (d := 21) (v := .d (.fl (.int .i64 d.seq))) rfl (og rfl (op_load_pt rfl Tryz.underlying3 rfl rfl rfl rfl rfl)) ?_
    refine rg_put (d := 22) (v := .d (.fl (.bool ((decide (d.seq < 0)))))) rfl (og rfl (op_bin rfl rfl rfl (b_lss _ _ _ _) rfl)) ?_
    refine rg_put (d := 23) (v := .d (.fl (.bool ((decide (d.seq < 0)))))) rfl (og rfl (op_move rfl rfl rfl)) ?_
    rcases fot ((decide (d.seq < 0))) with h4 | h4
    · skip
      have h5 := f_dec h4
      refine rg_put (d := 24) (v := .pt 101 1) rfl (oy rfl rfl rfl h4 (of_eff (s_field_pt rfl Tryz.underlying40 rfl ti3 rfl rfl rfl) rfl)) ?_
      refine rg_put (d := 25) (v := .d (.fl (.int .i64 d.seq))) rfl (oy rfl rfl rfl h4 (op_load_pt rfl Tryz.underlying3 rfl rfl rfl rfl rfl)) ?_
      refine rg_put (d := 26) (v := .d (.fl (.bool ((decide (2147483648 < d.seq)))))) rfl (oy rfl rfl rfl h4 (op_bin rfl rfl rfl (b_gtr _ _ _ _) rfl)) ?_
      refine rg_put (d := 27) (v := .d (.fl (.bool ((decide (2147483648 < d.seq)))))) rfl (og rfl (op_pick rfl rfl (by rw [h4]; rfl) rfl)) ?_
      refine rg_put (d := 28) (v := .d (.fl (.bool ((decide (2147483648 < d.seq)))))) rfl (og rfl (op_move rfl rfl rfl)) ?_
      rcases fot ((decide (2147483648 < d.seq))) with h6 | h6
      · skip
        have h7 := f_dec h6
        refine rg_put (d := 29) (v := .pt 101 6) rfl (oy rfl rfl rfl h6 (of_eff (s_field_pt rfl Tryz.underlying40 rfl ti3 rfl rfl rfl) rfl)) ?_
        refine rg_put (d := 30) (v := .d (.fl (.int .i64 d.score))) rfl (oy rfl rfl rfl h6 (op_load_pt rfl Tryz.underlying3 rfl rfl rfl rfl rfl)) ?_
        refine rg_put (d := 31) (v := .d (.fl (.bool ((decide (d.score < 0)))))) rfl (oy rfl rfl rfl h6 (op_bin rfl rfl rfl (b_lss _ _ _ _) rfl)) ?_
        refine rg_put (d := 32) (v := .d (.fl (.bool ((decide (d.score < 0)))))) rfl (og rfl (op_pick rfl rfl (by rw [h6]; rfl) rfl)) ?_
        refine rg_put (d := 33) (v := .d (.fl (.bool ((decide (d.score < 0)))))) rfl (og rfl (op_move rfl rfl rfl)) ?_
        rcases fot ((decide (d.score < 0))) with h8 | h8
        · skip
          have h9 := f_dec h8
          refine rg_put (d := 34) (v := .pt 101 6) rfl (oy rfl rfl rfl h8 (of_eff (s_field_pt rfl Tryz.underlying40 rfl ti3 rfl rfl rfl) rfl)) ?_
          refine rg_put (d := 35) (v := .d (.fl (.int .i64 d.score))) rfl (oy rfl rfl rfl h8 (op_load_pt rfl Tryz.underlying3 rfl rfl rfl rfl rfl)) ?_
          refine rg_put (d := 36) (v := .d (.fl (.bool ((decide (1000 < d.score)))))) rfl (oy rfl rfl rfl h8 (op_bin rfl rfl rfl (b_gtr _ _ _ _) rfl)) ?_
          refine rg_put (d := 37) (v := .d (.fl (.bool ((decide (1000 < d.score)))))) rfl (og rfl (op_pick rfl rfl (by rw [h8]; rfl) rfl)) ?_
          refine rg_put (d := 38) (v := .d (.fl (.bool ((decide (1000 < d.score)))))) rfl (og rfl (op_move rfl rfl rfl)) ?_
          rcases fot ((decide (1000 < d.score))) with h10 | h10
          · skip
            have h11 := f_dec h10
            refine rg_put (d := 39) (v := .pt 103 2) rfl (oy rfl rfl rfl h10 (of_eff (s_field_pt rfl Tryz.underlying77 rfl ti3 rfl rfl rfl) rfl)) ?_
            refine rg_put (d := 40) (v := .d (.fl (.int .i64 (((fnE l d.dev).1).kind)))) rfl (oy rfl rfl rfl h10 (op_load_pt rfl Tryz.underlying3 rfl rfl rfl rfl rfl)) ?_
            refine rg_put (d := 41) (v := .d (.ag (eDen d))) rfl (oy rfl rfl rfl h10 (of_eff (s_load_pts rfl Tryz.underlying40 rfl ti40 rfl rfl rfl rfl) rfl)) ?_
            refine rg_put (d := 42) (v := .d (.fl (.bool ((fit (((fnE l d.dev).1).kind) d))))) rfl (oy rfl rfl rfl h10 (op_call rfl Tryz.func47 nm47 rfl (.cons rfl (.d _) (.cons rfl (.d _) .nil)) (fitR (((fnE l d.dev).1).kind) d (by omega)) rfl)) ?_
            refine rg_put (d := 43) (v := .d (.fl (.bool ((!((fit (((fnE l d.dev).1).kind) d))))))) rfl (oy rfl rfl rfl h10 (op_un rfl rfl (u_not _) rfl)) ?_
            refine rg_put (d := 44) (v := .d (.fl (.bool ((!((fit (((fnE l d.dev).1).kind) d))))))) rfl (og rfl (op_pick rfl rfl (by rw [h10]; rfl) rfl)) ?_
            refine rg_done rfl ?_
            refine a_cond rfl (fun h12 => ?_) (fun h12 => ?_)
            · skip
              have h13 := t_not h12
              refine a_rseq ?_
              refine rg_put (d := 45) (v := .d (.ag (eSen ((Sen.mk ((Den.mk (⟨#[]⟩) 0 0 (⟨#[]⟩) (⟨#[]⟩) 0 0)) 0 (⟨#[]⟩) 0 0))))) rfl (og rfl (of_eff (op_build rfl Tryz.underlying44 ti44 rfl (by kernel_rfl) (by kernel_rfl) (pl := #[(0, 7), (7, 1), (8, 1), (9, 1), (10, 1)]) (by kernel_rfl) .nil rfl) rfl)) ?_
              refine rg_sto (nw := [(102, .bx 44 ((eSen ((Sen.mk ((Den.mk (⟨#[]⟩) 0 0 (⟨#[]⟩) (⟨#[]⟩) 0 0)) 0 (⟨#[]⟩) 0 0)))))]) rfl (og rfl (of_eff (s_store rfl rfl ti44 rfl rfl rfl rfl rfl rfl) rfl)) ?_
              refine rg_put (d := 5) (v := .d (.fl (.int .i64 3))) rfl (og rfl (op_assign rfl rfl rfl)) ?_
              refine rg_done rfl ?_
              refine a_ret ?_
              show ∃ ds, ResL _ _ _ ds ∧ RV.of ds = _
              refine ⟨[.ag [.fl (.string (((Sen.mk (Den.mk (⟨#[]⟩) 0 0 (⟨#[]⟩) (⟨#[]⟩) 0 0) 0 (⟨#[]⟩) 0 0).d).dev)), .fl (.int .i64 (((Sen.mk (Den.mk (⟨#[]⟩) 0 0 (⟨#[]⟩) (⟨#[]⟩) 0 0) 0 (⟨#[]⟩) 0 0).d).seq)), .fl (.int .i64 (((Sen.mk (Den.mk (⟨#[]⟩) 0 0 (⟨#[]⟩) (⟨#[]⟩) 0 0) 0 (⟨#[]⟩) 0 0).d).time)), .fl (.string (((Sen.mk (Den.mk (⟨#[]⟩) 0 0 (⟨#[]⟩) (⟨#[]⟩) 0 0) 0 (⟨#[]⟩) 0 0).d).tag)), .fl (.string (((Sen.mk (Den.mk (⟨#[]⟩) 0 0 (⟨#[]⟩) (⟨#[]⟩) 0 0) 0 (⟨#[]⟩) 0 0).d).plate)), .fl (.int .i64 (((Sen.mk (Den.mk (⟨#[]⟩) 0 0 (⟨#[]⟩) (⟨#[]⟩) 0 0) 0 (⟨#[]⟩) 0 0).d).axl)), .fl (.int .i64 (((Sen.mk (Den.mk (⟨#[]⟩) 0 0 (⟨#[]⟩) (⟨#[]⟩) 0 0) 0 (⟨#[]⟩) 0 0).d).score)), .fl (.int .i64 ((Sen.mk (Den.mk (⟨#[]⟩) 0 0 (⟨#[]⟩) (⟨#[]⟩) 0 0) 0 (⟨#[]⟩) 0 0).time)), .fl (.string ((Sen.mk (Den.mk (⟨#[]⟩) 0 0 (⟨#[]⟩) (⟨#[]⟩) 0 0) 0 (⟨#[]⟩) 0 0).point)), .fl (.int .i64 ((Sen.mk (Den.mk (⟨#[]⟩) 0 0 (⟨#[]⟩) (⟨#[]⟩) 0 0) 0 (⟨#[]⟩) 0 0).lane)), .fl (.int .i64 ((Sen.mk (Den.mk (⟨#[]⟩) 0 0 (⟨#[]⟩) (⟨#[]⟩) 0 0) 0 (⟨#[]⟩) 0 0).kind))], .fl (.int .i64 3)], (.cons (.cellT rfl rfl Tryz.underlying44 rfl ti44 rfl (Cv.ag (xs := [.fl (.string (((Sen.mk (Den.mk (⟨#[]⟩) 0 0 (⟨#[]⟩) (⟨#[]⟩) 0 0) 0 (⟨#[]⟩) 0 0).d).dev)), .fl (.int .i64 (((Sen.mk (Den.mk (⟨#[]⟩) 0 0 (⟨#[]⟩) (⟨#[]⟩) 0 0) 0 (⟨#[]⟩) 0 0).d).seq)), .fl (.int .i64 (((Sen.mk (Den.mk (⟨#[]⟩) 0 0 (⟨#[]⟩) (⟨#[]⟩) 0 0) 0 (⟨#[]⟩) 0 0).d).time)), .fl (.string (((Sen.mk (Den.mk (⟨#[]⟩) 0 0 (⟨#[]⟩) (⟨#[]⟩) 0 0) 0 (⟨#[]⟩) 0 0).d).tag)), .fl (.string (((Sen.mk (Den.mk (⟨#[]⟩) 0 0 (⟨#[]⟩) (⟨#[]⟩) 0 0) 0 (⟨#[]⟩) 0 0).d).plate)), .fl (.int .i64 (((Sen.mk (Den.mk (⟨#[]⟩) 0 0 (⟨#[]⟩) (⟨#[]⟩) 0 0) 0 (⟨#[]⟩) 0 0).d).axl)), .fl (.int .i64 (((Sen.mk (Den.mk (⟨#[]⟩) 0 0 (⟨#[]⟩) (⟨#[]⟩) 0 0) 0 (⟨#[]⟩) 0 0).d).score)), .fl (.int .i64 ((Sen.mk (Den.mk (⟨#[]⟩) 0 0 (⟨#[]⟩) (⟨#[]⟩) 0 0) 0 (⟨#[]⟩) 0 0).time)), .fl (.string ((Sen.mk (Den.mk (⟨#[]⟩) 0 0 (⟨#[]⟩) (⟨#[]⟩) 0 0) 0 (⟨#[]⟩) 0 0).point)), .fl (.int .i64 ((Sen.mk (Den.mk (⟨#[]⟩) 0 0 (⟨#[]⟩) (⟨#[]⟩) 0 0) 0 (⟨#[]⟩) 0 0).lane)), .fl (.int .i64 ((Sen.mk (Den.mk (⟨#[]⟩) 0 0 (⟨#[]⟩) (⟨#[]⟩) 0 0) 0 (⟨#[]⟩) 0 0).kind))]) (ys := [.fl (.string (((Sen.mk (Den.mk (⟨#[]⟩) 0 0 (⟨#[]⟩) (⟨#[]⟩) 0 0) 0 (⟨#[]⟩) 0 0).d).dev)), .fl (.int .i64 (((Sen.mk (Den.mk (⟨#[]⟩) 0 0 (⟨#[]⟩) (⟨#[]⟩) 0 0) 0 (⟨#[]⟩) 0 0).d).seq)), .fl (.int .i64 (((Sen.mk (Den.mk (⟨#[]⟩) 0 0 (⟨#[]⟩) (⟨#[]⟩) 0 0) 0 (⟨#[]⟩) 0 0).d).time)), .fl (.string (((Sen.mk (Den.mk (⟨#[]⟩) 0 0 (⟨#[]⟩) (⟨#[]⟩) 0 0) 0 (⟨#[]⟩) 0 0).d).tag)), .fl (.string (((Sen.mk (Den.mk (⟨#[]⟩) 0 0 (⟨#[]⟩) (⟨#[]⟩) 0 0) 0 (⟨#[]⟩) 0 0).d).plate)), .fl (.int .i64 (((Sen.mk (Den.mk (⟨#[]⟩) 0 0 (⟨#[]⟩) (⟨#[]⟩) 0 0) 0 (⟨#[]⟩) 0 0).d).axl)), .fl (.int .i64 (((Sen.mk (Den.mk (⟨#[]⟩) 0 0 (⟨#[]⟩) (⟨#[]⟩) 0 0) 0 (⟨#[]⟩) 0 0).d).score)), .fl (.int .i64 ((Sen.mk (Den.mk (⟨#[]⟩) 0 0 (⟨#[]⟩) (⟨#[]⟩) 0 0) 0 (⟨#[]⟩) 0 0).time)), .fl (.string ((Sen.mk (Den.mk (⟨#[]⟩) 0 0 (⟨#[]⟩) (⟨#[]⟩) 0 0) 0 (⟨#[]⟩) 0 0).point)), .fl (.int .i64 ((Sen.mk (Den.mk (⟨#[]⟩) 0 0 (⟨#[]⟩) (⟨#[]⟩) 0 0) 0 (⟨#[]⟩) 0 0).lane)), .fl (.int .i64 ((Sen.mk (Den.mk (⟨#[]⟩) 0 0 (⟨#[]⟩) (⟨#[]⟩) 0 0) 0 (⟨#[]⟩) 0 0).kind))]) ⟨Cv.refl _, Cv.refl _, Cv.refl _, Cv.refl _, Cv.refl _, Cv.refl _, Cv.refl _, Cv.refl _, Cv.refl _, Cv.refl _, Cv.refl _, trivial⟩)) (.cons (.tmp rfl (.d _)) .nil)), ?_⟩
              have gI : inL d = true := inL_yes (by omega)
              have hu : rsn (fnC l d) = (3, 0) := by unfold rsn fnC; simp only [gI, h1, h3, h4, h6, h8, h10, h12, h13, Bool.true_or, Bool.false_or, Bool.or_true, Bool.or_false, Bool.not_true, Bool.not_false, cond_true, cond_false, Bool.true_and, Bool.false_and, Bool.and_true, Bool.and_false] <;> rfl
              rw [rs_cr hu (by decide), hu]; rfl
            · skip
              have h14 := f_not h12
              refine a_skip ?_
              show A _ _ _ _ _ _ _
              refine a_rseq ?_
              refine rg_put (d := 47) (v := .d (.ag (eDc ((fnE l d.dev).1)))) rfl (og rfl (of_eff (s_load_pts rfl Tryz.underlying77 rfl ti77 rfl rfl rfl rfl) rfl)) ?_
              refine rg_put (d := 48) (v := .pt 101 2) rfl (og rfl (of_eff (s_field_pt rfl Tryz.underlying40 rfl ti3 rfl rfl rfl) rfl)) ?_
              refine rg_put (d := 49) (v := .d (.fl (.int .i64 d.time))) rfl (og rfl (op_load_pt rfl Tryz.underlying3 rfl rfl rfl rfl rfl)) ?_
              refine rg_put (d := 50) (v := .tu [.fl (.int .i64 ((Dw.clk ((fnE l d.dev).1) d.time).1)), .fl (.bool ((Dw.clk ((fnE l d.dev).1) d.time).2))]) rfl (og rfl (op_call rfl Tryz.func48 nm48 rfl (.cons rfl (.d _) (.cons rfl (.d _) .nil)) (Dw.clk11 ((fnE l d.dev).1) d.time hg1 hg3) rfl)) ?_
              refine rg_put (d := 46) (v := .tu [.fl (.int .i64 ((Dw.clk ((fnE l d.dev).1) d.time).1)), .fl (.bool ((Dw.clk ((fnE l d.dev).1) d.time).2))]) rfl (og rfl (op_move rfl rfl rfl)) ?_
              refine rg_put (d := 51) (v := .d (.fl (.int .i64 ((Dw.clk ((fnE l d.dev).1) d.time).1)))) rfl (og rfl (op_extract rfl rfl rfl rfl)) ?_
              refine rg_put (d := 52) (v := .d (.fl (.bool ((Dw.clk ((fnE l d.dev).1) d.time).2)))) rfl (og rfl (op_extract rfl rfl rfl rfl)) ?_
              refine rg_put (d := 8) (v := .d (.fl (.int .i64 ((Dw.clk ((fnE l d.dev).1) d.time).1)))) rfl (og rfl (op_assign rfl rfl rfl)) ?_
              refine rg_put (d := 9) (v := .d (.fl (.bool ((Dw.clk ((fnE l d.dev).1) d.time).2)))) rfl (og rfl (op_assign rfl rfl rfl)) ?_
              refine rg_done rfl ?_
              refine a_seq ?_
              refine a_rseq ?_
              refine rg_put (d := 53) (v := .d (.fl (.bool ((Dw.clk ((fnE l d.dev).1) d.time).2)))) rfl (og rfl (op_move rfl rfl rfl)) ?_
              refine rg_put (d := 54) (v := .d (.fl (.bool ((!((Dw.clk ((fnE l d.dev).1) d.time).2)))))) rfl (og rfl (op_un rfl rfl (u_not _) rfl)) ?_
              refine rg_done rfl ?_
              refine a_cond rfl (fun h15 => ?_) (fun h15 => ?_)
              · skip
                have h16 := t_not h15
                refine a_rseq ?_
                refine rg_put (d := 55) (v := .d (.ag (eSen ((Sen.mk ((Den.mk (⟨#[]⟩) 0 0 (⟨#[]⟩) (⟨#[]⟩) 0 0)) 0 (⟨#[]⟩) 0 0))))) rfl (og rfl (of_eff (op_build rfl Tryz.underlying44 ti44 rfl (by kernel_rfl) (by kernel_rfl) (pl := #[(0, 7), (7, 1), (8, 1), (9, 1), (10, 1)]) (by kernel_rfl) .nil rfl) rfl)) ?_
                refine rg_sto (nw := [(102, .bx 44 ((eSen ((Sen.mk ((Den.mk (⟨#[]⟩) 0 0 (⟨#[]⟩) (⟨#[]⟩) 0 0)) 0 (⟨#[]⟩) 0 0)))))]) rfl (og rfl (of_eff (s_store rfl rfl ti44 rfl rfl rfl rfl rfl rfl) rfl)) ?_
                refine rg_put (d := 5) (v := .d (.fl (.int .i64 2))) rfl (og rfl (op_assign rfl rfl rfl)) ?_
                refine rg_done rfl ?_
                refine a_ret ?_
                show ∃ ds, ResL _ _ _ ds ∧ RV.of ds = _
                refine ⟨[.ag [.fl (.string (((Sen.mk (Den.mk (⟨#[]⟩) 0 0 (⟨#[]⟩) (⟨#[]⟩) 0 0) 0 (⟨#[]⟩) 0 0).d).dev)), .fl (.int .i64 (((Sen.mk (Den.mk (⟨#[]⟩) 0 0 (⟨#[]⟩) (⟨#[]⟩) 0 0) 0 (⟨#[]⟩) 0 0).d).seq)), .fl (.int .i64 (((Sen.mk (Den.mk (⟨#[]⟩) 0 0 (⟨#[]⟩) (⟨#[]⟩) 0 0) 0 (⟨#[]⟩) 0 0).d).time)), .fl (.string (((Sen.mk (Den.mk (⟨#[]⟩) 0 0 (⟨#[]⟩) (⟨#[]⟩) 0 0) 0 (⟨#[]⟩) 0 0).d).tag)), .fl (.string (((Sen.mk (Den.mk (⟨#[]⟩) 0 0 (⟨#[]⟩) (⟨#[]⟩) 0 0) 0 (⟨#[]⟩) 0 0).d).plate)), .fl (.int .i64 (((Sen.mk (Den.mk (⟨#[]⟩) 0 0 (⟨#[]⟩) (⟨#[]⟩) 0 0) 0 (⟨#[]⟩) 0 0).d).axl)), .fl (.int .i64 (((Sen.mk (Den.mk (⟨#[]⟩) 0 0 (⟨#[]⟩) (⟨#[]⟩) 0 0) 0 (⟨#[]⟩) 0 0).d).score)), .fl (.int .i64 ((Sen.mk (Den.mk (⟨#[]⟩) 0 0 (⟨#[]⟩) (⟨#[]⟩) 0 0) 0 (⟨#[]⟩) 0 0).time)), .fl (.string ((Sen.mk (Den.mk (⟨#[]⟩) 0 0 (⟨#[]⟩) (⟨#[]⟩) 0 0) 0 (⟨#[]⟩) 0 0).point)), .fl (.int .i64 ((Sen.mk (Den.mk (⟨#[]⟩) 0 0 (⟨#[]⟩) (⟨#[]⟩) 0 0) 0 (⟨#[]⟩) 0 0).lane)), .fl (.int .i64 ((Sen.mk (Den.mk (⟨#[]⟩) 0 0 (⟨#[]⟩) (⟨#[]⟩) 0 0) 0 (⟨#[]⟩) 0 0).kind))], .fl (.int .i64 2)], (.cons (.cellT rfl rfl Tryz.underlying44 rfl ti44 rfl (Cv.ag (xs := [.fl (.string (((Sen.mk (Den.mk (⟨#[]⟩) 0 0 (⟨#[]⟩) (⟨#[]⟩) 0 0) 0 (⟨#[]⟩) 0 0).d).dev)), .fl (.int .i64 (((Sen.mk (Den.mk (⟨#[]⟩) 0 0 (⟨#[]⟩) (⟨#[]⟩) 0 0) 0 (⟨#[]⟩) 0 0).d).seq)), .fl (.int .i64 (((Sen.mk (Den.mk (⟨#[]⟩) 0 0 (⟨#[]⟩) (⟨#[]⟩) 0 0) 0 (⟨#[]⟩) 0 0).d).time)), .fl (.string (((Sen.mk (Den.mk (⟨#[]⟩) 0 0 (⟨#[]⟩) (⟨#[]⟩) 0 0) 0 (⟨#[]⟩) 0 0).d).tag)), .fl (.string (((Sen.mk (Den.mk (⟨#[]⟩) 0 0 (⟨#[]⟩) (⟨#[]⟩) 0 0) 0 (⟨#[]⟩) 0 0).d).plate)), .fl (.int .i64 (((Sen.mk (Den.mk (⟨#[]⟩) 0 0 (⟨#[]⟩) (⟨#[]⟩) 0 0) 0 (⟨#[]⟩) 0 0).d).axl)), .fl (.int .i64 (((Sen.mk (Den.mk (⟨#[]⟩) 0 0 (⟨#[]⟩) (⟨#[]⟩) 0 0) 0 (⟨#[]⟩) 0 0).d).score)), .fl (.int .i64 ((Sen.mk (Den.mk (⟨#[]⟩) 0 0 (⟨#[]⟩) (⟨#[]⟩) 0 0) 0 (⟨#[]⟩) 0 0).time)), .fl (.string ((Sen.mk (Den.mk (⟨#[]⟩) 0 0 (⟨#[]⟩) (⟨#[]⟩) 0 0) 0 (⟨#[]⟩) 0 0).point)), .fl (.int .i64 ((Sen.mk (Den.mk (⟨#[]⟩) 0 0 (⟨#[]⟩) (⟨#[]⟩) 0 0) 0 (⟨#[]⟩) 0 0).lane)), .fl (.int .i64 ((Sen.mk (Den.mk (⟨#[]⟩) 0 0 (⟨#[]⟩) (⟨#[]⟩) 0 0) 0 (⟨#[]⟩) 0 0).kind))]) (ys := [.fl (.string (((Sen.mk (Den.mk (⟨#[]⟩) 0 0 (⟨#[]⟩) (⟨#[]⟩) 0 0) 0 (⟨#[]⟩) 0 0).d).dev)), .fl (.int .i64 (((Sen.mk (Den.mk (⟨#[]⟩) 0 0 (⟨#[]⟩) (⟨#[]⟩) 0 0) 0 (⟨#[]⟩) 0 0).d).seq)), .fl (.int .i64 (((Sen.mk (Den.mk (⟨#[]⟩) 0 0 (⟨#[]⟩) (⟨#[]⟩) 0 0) 0 (⟨#[]⟩) 0 0).d).time)), .fl (.string (((Sen.mk (Den.mk (⟨#[]⟩) 0 0 (⟨#[]⟩) (⟨#[]⟩) 0 0) 0 (⟨#[]⟩) 0 0).d).tag)), .fl (.string (((Sen.mk (Den.mk (⟨#[]⟩) 0 0 (⟨#[]⟩) (⟨#[]⟩) 0 0) 0 (⟨#[]⟩) 0 0).d).plate)), .fl (.int .i64 (((Sen.mk (Den.mk (⟨#[]⟩) 0 0 (⟨#[]⟩) (⟨#[]⟩) 0 0) 0 (⟨#[]⟩) 0 0).d).axl)), .fl (.int .i64 (((Sen.mk (Den.mk (⟨#[]⟩) 0 0 (⟨#[]⟩) (⟨#[]⟩) 0 0) 0 (⟨#[]⟩) 0 0).d).score)), .fl (.int .i64 ((Sen.mk (Den.mk (⟨#[]⟩) 0 0 (⟨#[]⟩) (⟨#[]⟩) 0 0) 0 (⟨#[]⟩) 0 0).time)), .fl (.string ((Sen.mk (Den.mk (⟨#[]⟩) 0 0 (⟨#[]⟩) (⟨#[]⟩) 0 0) 0 (⟨#[]⟩) 0 0).point)), .fl (.int .i64 ((Sen.mk (Den.mk (⟨#[]⟩) 0 0 (⟨#[]⟩) (⟨#[]⟩) 0 0) 0 (⟨#[]⟩) 0 0).lane)), .fl (.int .i64 ((Sen.mk (Den.mk (⟨#[]⟩) 0 0 (⟨#[]⟩) (⟨#[]⟩) 0 0) 0 (⟨#[]⟩) 0 0).kind))]) ⟨Cv.refl _, Cv.refl _, Cv.refl _, Cv.refl _, Cv.refl _, Cv.refl _, Cv.refl _, Cv.refl _, Cv.refl _, Cv.refl _, Cv.refl _, trivial⟩)) (.cons (.tmp rfl (.d _)) .nil)), ?_⟩
                have gI : inL d = true := inL_yes (by omega)
                have hu : rsn (fnC l d) = (2, 0) := by unfold rsn fnC; simp only [gI, h1, h3, h4, h6, h8, h10, h12, h14, h15, h16, Bool.true_or, Bool.false_or, Bool.or_true, Bool.or_false, Bool.not_true, Bool.not_false, cond_true, cond_false, Bool.true_and, Bool.false_and, Bool.and_true, Bool.and_false] <;> rfl
                rw [rs_cr hu (by decide), hu]; rfl
              · skip
                have h17 := f_not h15
                refine a_skip ?_
                show A _ _ _ _ _ _ _
                refine a_seq ?_
                refine a_rseq ?_
                refine rg_put (d := 56) (v := .d (.ag (eDc ((fnE l d.dev).1)))) rfl (og rfl (of_eff (s_load_pts rfl Tryz.underlying77 rfl ti77 rfl rfl rfl rfl) rfl)) ?_
                refine rg_put (d := 57) (v := .d (.fl (.int .i64 ((Dw.clk ((fnE l d.dev).1) d.time).1)))) rfl (og rfl (op_move rfl rfl rfl)) ?_
                refine rg_put (d := 58) (v := .d (.fl (.bool ((Dw.wrk ((fnE l d.dev).1) ((Dw.clk ((fnE l d.dev).1) d.time).1)))))) rfl (og rfl (op_call rfl Tryz.func49 nm49 rfl (.cons rfl (.d _) (.cons rfl (.d _) .nil)) (Dw.wrk13 ((fnE l d.dev).1) ((Dw.clk ((fnE l d.dev).1) d.time).1) hg2) rfl)) ?_
                refine rg_put (d := 59) (v := .d (.fl (.bool ((!((Dw.wrk ((fnE l d.dev).1) ((Dw.clk ((fnE l d.dev).1) d.time).1)))))))) rfl (og rfl (op_un rfl rfl (u_not _) rfl)) ?_
                refine rg_done rfl ?_
                refine a_cond rfl (fun h18 => ?_) (fun h18 => ?_)
                · skip
                  have h19 := t_not h18
                  refine a_rseq ?_
                  refine rg_put (d := 60) (v := .d (.ag (eSen ((Sen.mk ((Den.mk (⟨#[]⟩) 0 0 (⟨#[]⟩) (⟨#[]⟩) 0 0)) 0 (⟨#[]⟩) 0 0))))) rfl (og rfl (of_eff (op_build rfl Tryz.underlying44 ti44 rfl (by kernel_rfl) (by kernel_rfl) (pl := #[(0, 7), (7, 1), (8, 1), (9, 1), (10, 1)]) (by kernel_rfl) .nil rfl) rfl)) ?_
                  refine rg_sto (nw := [(102, .bx 44 ((eSen ((Sen.mk ((Den.mk (⟨#[]⟩) 0 0 (⟨#[]⟩) (⟨#[]⟩) 0 0)) 0 (⟨#[]⟩) 0 0)))))]) rfl (og rfl (of_eff (s_store rfl rfl ti44 rfl rfl rfl rfl rfl rfl) rfl)) ?_
                  refine rg_put (d := 5) (v := .d (.fl (.int .i64 5))) rfl (og rfl (op_assign rfl rfl rfl)) ?_
                  refine rg_done rfl ?_
                  refine a_ret ?_
                  show ∃ ds, ResL _ _ _ ds ∧ RV.of ds = _
                  refine ⟨[.ag [.fl (.string (((Sen.mk (Den.mk (⟨#[]⟩) 0 0 (⟨#[]⟩) (⟨#[]⟩) 0 0) 0 (⟨#[]⟩) 0 0).d).dev)), .fl (.int .i64 (((Sen.mk (Den.mk (⟨#[]⟩) 0 0 (⟨#[]⟩) (⟨#[]⟩) 0 0) 0 (⟨#[]⟩) 0 0).d).seq)), .fl (.int .i64 (((Sen.mk (Den.mk (⟨#[]⟩) 0 0 (⟨#[]⟩) (⟨#[]⟩) 0 0) 0 (⟨#[]⟩) 0 0).d).time)), .fl (.string (((Sen.mk (Den.mk (⟨#[]⟩) 0 0 (⟨#[]⟩) (⟨#[]⟩) 0 0) 0 (⟨#[]⟩) 0 0).d).tag)), .fl (.string (((Sen.mk (Den.mk (⟨#[]⟩) 0 0 (⟨#[]⟩) (⟨#[]⟩) 0 0) 0 (⟨#[]⟩) 0 0).d).plate)), .fl (.int .i64 (((Sen.mk (Den.mk (⟨#[]⟩) 0 0 (⟨#[]⟩) (⟨#[]⟩) 0 0) 0 (⟨#[]⟩) 0 0).d).axl)), .fl (.int .i64 (((Sen.mk (Den.mk (⟨#[]⟩) 0 0 (⟨#[]⟩) (⟨#[]⟩) 0 0) 0 (⟨#[]⟩) 0 0).d).score)), .fl (.int .i64 ((Sen.mk (Den.mk (⟨#[]⟩) 0 0 (⟨#[]⟩) (⟨#[]⟩) 0 0) 0 (⟨#[]⟩) 0 0).time)), .fl (.string ((Sen.mk (Den.mk (⟨#[]⟩) 0 0 (⟨#[]⟩) (⟨#[]⟩) 0 0) 0 (⟨#[]⟩) 0 0).point)), .fl (.int .i64 ((Sen.mk (Den.mk (⟨#[]⟩) 0 0 (⟨#[]⟩) (⟨#[]⟩) 0 0) 0 (⟨#[]⟩) 0 0).lane)), .fl (.int .i64 ((Sen.mk (Den.mk (⟨#[]⟩) 0 0 (⟨#[]⟩) (⟨#[]⟩) 0 0) 0 (⟨#[]⟩) 0 0).kind))], .fl (.int .i64 5)], (.cons (.cellT rfl rfl Tryz.underlying44 rfl ti44 rfl (Cv.ag (xs := [.fl (.string (((Sen.mk (Den.mk (⟨#[]⟩) 0 0 (⟨#[]⟩) (⟨#[]⟩) 0 0) 0 (⟨#[]⟩) 0 0).d).dev)), .fl (.int .i64 (((Sen.mk (Den.mk (⟨#[]⟩) 0 0 (⟨#[]⟩) (⟨#[]⟩) 0 0) 0 (⟨#[]⟩) 0 0).d).seq)), .fl (.int .i64 (((Sen.mk (Den.mk (⟨#[]⟩) 0 0 (⟨#[]⟩) (⟨#[]⟩) 0 0) 0 (⟨#[]⟩) 0 0).d).time)), .fl (.string (((Sen.mk (Den.mk (⟨#[]⟩) 0 0 (⟨#[]⟩) (⟨#[]⟩) 0 0) 0 (⟨#[]⟩) 0 0).d).tag)), .fl (.string (((Sen.mk (Den.mk (⟨#[]⟩) 0 0 (⟨#[]⟩) (⟨#[]⟩) 0 0) 0 (⟨#[]⟩) 0 0).d).plate)), .fl (.int .i64 (((Sen.mk (Den.mk (⟨#[]⟩) 0 0 (⟨#[]⟩) (⟨#[]⟩) 0 0) 0 (⟨#[]⟩) 0 0).d).axl)), .fl (.int .i64 (((Sen.mk (Den.mk (⟨#[]⟩) 0 0 (⟨#[]⟩) (⟨#[]⟩) 0 0) 0 (⟨#[]⟩) 0 0).d).score)), .fl (.int .i64 ((Sen.mk (Den.mk (⟨#[]⟩) 0 0 (⟨#[]⟩) (⟨#[]⟩) 0 0) 0 (⟨#[]⟩) 0 0).time)), .fl (.string ((Sen.mk (Den.mk (⟨#[]⟩) 0 0 (⟨#[]⟩) (⟨#[]⟩) 0 0) 0 (⟨#[]⟩) 0 0).point)), .fl (.int .i64 ((Sen.mk (Den.mk (⟨#[]⟩) 0 0 (⟨#[]⟩) (⟨#[]⟩) 0 0) 0 (⟨#[]⟩) 0 0).lane)), .fl (.int .i64 ((Sen.mk (Den.mk (⟨#[]⟩) 0 0 (⟨#[]⟩) (⟨#[]⟩) 0 0) 0 (⟨#[]⟩) 0 0).kind))]) (ys := [.fl (.string (((Sen.mk (Den.mk (⟨#[]⟩) 0 0 (⟨#[]⟩) (⟨#[]⟩) 0 0) 0 (⟨#[]⟩) 0 0).d).dev)), .fl (.int .i64 (((Sen.mk (Den.mk (⟨#[]⟩) 0 0 (⟨#[]⟩) (⟨#[]⟩) 0 0) 0 (⟨#[]⟩) 0 0).d).seq)), .fl (.int .i64 (((Sen.mk (Den.mk (⟨#[]⟩) 0 0 (⟨#[]⟩) (⟨#[]⟩) 0 0) 0 (⟨#[]⟩) 0 0).d).time)), .fl (.string (((Sen.mk (Den.mk (⟨#[]⟩) 0 0 (⟨#[]⟩) (⟨#[]⟩) 0 0) 0 (⟨#[]⟩) 0 0).d).tag)), .fl (.string (((Sen.mk (Den.mk (⟨#[]⟩) 0 0 (⟨#[]⟩) (⟨#[]⟩) 0 0) 0 (⟨#[]⟩) 0 0).d).plate)), .fl (.int .i64 (((Sen.mk (Den.mk (⟨#[]⟩) 0 0 (⟨#[]⟩) (⟨#[]⟩) 0 0) 0 (⟨#[]⟩) 0 0).d).axl)), .fl (.int .i64 (((Sen.mk (Den.mk (⟨#[]⟩) 0 0 (⟨#[]⟩) (⟨#[]⟩) 0 0) 0 (⟨#[]⟩) 0 0).d).score)), .fl (.int .i64 ((Sen.mk (Den.mk (⟨#[]⟩) 0 0 (⟨#[]⟩) (⟨#[]⟩) 0 0) 0 (⟨#[]⟩) 0 0).time)), .fl (.string ((Sen.mk (Den.mk (⟨#[]⟩) 0 0 (⟨#[]⟩) (⟨#[]⟩) 0 0) 0 (⟨#[]⟩) 0 0).point)), .fl (.int .i64 ((Sen.mk (Den.mk (⟨#[]⟩) 0 0 (⟨#[]⟩) (⟨#[]⟩) 0 0) 0 (⟨#[]⟩) 0 0).lane)), .fl (.int .i64 ((Sen.mk (Den.mk (⟨#[]⟩) 0 0 (⟨#[]⟩) (⟨#[]⟩) 0 0) 0 (⟨#[]⟩) 0 0).kind))]) ⟨Cv.refl _, Cv.refl _, Cv.refl _, Cv.refl _, Cv.refl _, Cv.refl _, Cv.refl _, Cv.refl _, Cv.refl _, Cv.refl _, Cv.refl _, trivial⟩)) (.cons (.tmp rfl (.d _)) .nil)), ?_⟩
                  have gI : inL d = true := inL_yes (by omega)
                  have hu : rsn (fnC l d) = (5, 0) := by unfold rsn fnC; simp only [gI, h1, h3, h4, h6, h8, h10, h12, h14, h15, h17, h18, h19, Bool.true_or, Bool.false_or, Bool.or_true, Bool.or_false, Bool.not_true, Bool.not_false, cond_true, cond_false, Bool.true_and, Bool.false_and, Bool.and_true, Bool.and_false] <;> rfl
                  rw [rs_cr hu (by decide), hu]; rfl
                · skip
                  have h20 := f_not h18
                  refine a_skip ?_
                  show A _ _ _ _ _ _ _
                  refine a_rseq ?_
                  refine rg_put (d := 61) (v := .d (.ag (eDen d))) rfl (og rfl (of_eff (s_load_pts rfl Tryz.underlying40 rfl ti40 rfl rfl rfl rfl) rfl)) ?_
                  refine rg_put (d := 62) (v := .d (.fl (.int .i64 ((Dw.clk ((fnE l d.dev).1) d.time).1)))) rfl (og rfl (op_move rfl rfl rfl)) ?_
                  refine rg_put (d := 63) (v := .pt 103 1) rfl (og rfl (of_eff (s_field_pt rfl Tryz.underlying77 rfl ti9 rfl rfl rfl) rfl)) ?_
                  refine rg_put (d := 64) (v := .d (.fl (.string (((fnE l d.dev).1).point)))) rfl (og rfl (op_load_pt rfl Tryz.underlying9 rfl rfl rfl rfl rfl)) ?_
                  refine rg_put (d := 65) (v := .pt 103 3) rfl (og rfl (of_eff (s_field_pt rfl Tryz.underlying77 rfl ti3 rfl rfl rfl) rfl)) ?_
                  refine rg_put (d := 66) (v := .d (.fl (.int .i64 (((fnE l d.dev).1).lane)))) rfl (og rfl (op_load_pt rfl Tryz.underlying3 rfl rfl rfl rfl rfl)) ?_
                  refine rg_put (d := 67) (v := .pt 103 2) rfl (og rfl (of_eff (s_field_pt rfl Tryz.underlying77 rfl ti3 rfl rfl rfl) rfl)) ?_
                  refine rg_put (d := 68) (v := .d (.fl (.int .i64 (((fnE l d.dev).1).kind)))) rfl (og rfl (op_load_pt rfl Tryz.underlying3 rfl rfl rfl rfl rfl)) ?_
                  refine rg_put (d := 69) (v := .d (.ag (eSen ((Sen.mk d ((Dw.clk ((fnE l d.dev).1) d.time).1) (((fnE l d.dev).1).point) (((fnE l d.dev).1).lane) (((fnE l d.dev).1).kind)))))) rfl (og rfl (of_eff (op_build rfl Tryz.underlying44 ti44 rfl (by kernel_rfl) (by kernel_rfl) (pl := #[(0, 7), (7, 1), (8, 1), (9, 1), (10, 1)]) (by kernel_rfl) (.cons rfl rfl (.d _) rfl rfl rfl (.cons rfl rfl (.d _) rfl rfl rfl (.cons rfl rfl (.d _) rfl rfl rfl (.cons rfl rfl (.d _) rfl rfl rfl (.cons rfl rfl (.d _) rfl rfl rfl .nil))))) rfl) rfl)) ?_
                  refine rg_sto (nw := [(102, .bx 44 ((eSen ((Sen.mk d ((Dw.clk ((fnE l d.dev).1) d.time).1) (((fnE l d.dev).1).point) (((fnE l d.dev).1).lane) (((fnE l d.dev).1).kind))))))]) rfl (og rfl (of_eff (s_store rfl rfl ti44 rfl rfl rfl rfl rfl rfl) rfl)) ?_
                  refine rg_put (d := 5) (v := .d (.fl (.int .i64 0))) rfl (og rfl (op_assign rfl rfl rfl)) ?_
                  refine rg_done rfl ?_
                  refine a_ret ?_
                  show ∃ ds, ResL _ _ _ ds ∧ RV.of ds = _
                  refine ⟨[.ag [.fl (.string (((Sen.mk d ((Dw.clk ((fnE l d.dev).1) d.time).1) (((fnE l d.dev).1).point) (((fnE l d.dev).1).lane) (((fnE l d.dev).1).kind)).d).dev)), .fl (.int .i64 (((Sen.mk d ((Dw.clk ((fnE l d.dev).1) d.time).1) (((fnE l d.dev).1).point) (((fnE l d.dev).1).lane) (((fnE l d.dev).1).kind)).d).seq)), .fl (.int .i64 (((Sen.mk d ((Dw.clk ((fnE l d.dev).1) d.time).1) (((fnE l d.dev).1).point) (((fnE l d.dev).1).lane) (((fnE l d.dev).1).kind)).d).time)), .fl (.string (((Sen.mk d ((Dw.clk ((fnE l d.dev).1) d.time).1) (((fnE l d.dev).1).point) (((fnE l d.dev).1).lane) (((fnE l d.dev).1).kind)).d).tag)), .fl (.string (((Sen.mk d ((Dw.clk ((fnE l d.dev).1) d.time).1) (((fnE l d.dev).1).point) (((fnE l d.dev).1).lane) (((fnE l d.dev).1).kind)).d).plate)), .fl (.int .i64 (((Sen.mk d ((Dw.clk ((fnE l d.dev).1) d.time).1) (((fnE l d.dev).1).point) (((fnE l d.dev).1).lane) (((fnE l d.dev).1).kind)).d).axl)), .fl (.int .i64 (((Sen.mk d ((Dw.clk ((fnE l d.dev).1) d.time).1) (((fnE l d.dev).1).point) (((fnE l d.dev).1).lane) (((fnE l d.dev).1).kind)).d).score)), .fl (.int .i64 ((Sen.mk d ((Dw.clk ((fnE l d.dev).1) d.time).1) (((fnE l d.dev).1).point) (((fnE l d.dev).1).lane) (((fnE l d.dev).1).kind)).time)), .fl (.string ((Sen.mk d ((Dw.clk ((fnE l d.dev).1) d.time).1) (((fnE l d.dev).1).point) (((fnE l d.dev).1).lane) (((fnE l d.dev).1).kind)).point)), .fl (.int .i64 ((Sen.mk d ((Dw.clk ((fnE l d.dev).1) d.time).1) (((fnE l d.dev).1).point) (((fnE l d.dev).1).lane) (((fnE l d.dev).1).kind)).lane)), .fl (.int .i64 ((Sen.mk d ((Dw.clk ((fnE l d.dev).1) d.time).1) (((fnE l d.dev).1).point) (((fnE l d.dev).1).lane) (((fnE l d.dev).1).kind)).kind))], .fl (.int .i64 0)], (.cons (.cellT rfl rfl Tryz.underlying44 rfl ti44 rfl (Cv.ag (xs := [.fl (.string (((Sen.mk d ((Dw.clk ((fnE l d.dev).1) d.time).1) (((fnE l d.dev).1).point) (((fnE l d.dev).1).lane) (((fnE l d.dev).1).kind)).d).dev)), .fl (.int .i64 (((Sen.mk d ((Dw.clk ((fnE l d.dev).1) d.time).1) (((fnE l d.dev).1).point) (((fnE l d.dev).1).lane) (((fnE l d.dev).1).kind)).d).seq)), .fl (.int .i64 (((Sen.mk d ((Dw.clk ((fnE l d.dev).1) d.time).1) (((fnE l d.dev).1).point) (((fnE l d.dev).1).lane) (((fnE l d.dev).1).kind)).d).time)), .fl (.string (((Sen.mk d ((Dw.clk ((fnE l d.dev).1) d.time).1) (((fnE l d.dev).1).point) (((fnE l d.dev).1).lane) (((fnE l d.dev).1).kind)).d).tag)), .fl (.string (((Sen.mk d ((Dw.clk ((fnE l d.dev).1) d.time).1) (((fnE l d.dev).1).point) (((fnE l d.dev).1).lane) (((fnE l d.dev).1).kind)).d).plate)), .fl (.int .i64 (((Sen.mk d ((Dw.clk ((fnE l d.dev).1) d.time).1) (((fnE l d.dev).1).point) (((fnE l d.dev).1).lane) (((fnE l d.dev).1).kind)).d).axl)), .fl (.int .i64 (((Sen.mk d ((Dw.clk ((fnE l d.dev).1) d.time).1) (((fnE l d.dev).1).point) (((fnE l d.dev).1).lane) (((fnE l d.dev).1).kind)).d).score)), .fl (.int .i64 ((Sen.mk d ((Dw.clk ((fnE l d.dev).1) d.time).1) (((fnE l d.dev).1).point) (((fnE l d.dev).1).lane) (((fnE l d.dev).1).kind)).time)), .fl (.string ((Sen.mk d ((Dw.clk ((fnE l d.dev).1) d.time).1) (((fnE l d.dev).1).point) (((fnE l d.dev).1).lane) (((fnE l d.dev).1).kind)).point)), .fl (.int .i64 ((Sen.mk d ((Dw.clk ((fnE l d.dev).1) d.time).1) (((fnE l d.dev).1).point) (((fnE l d.dev).1).lane) (((fnE l d.dev).1).kind)).lane)), .fl (.int .i64 ((Sen.mk d ((Dw.clk ((fnE l d.dev).1) d.time).1) (((fnE l d.dev).1).point) (((fnE l d.dev).1).lane) (((fnE l d.dev).1).kind)).kind))]) (ys := [.fl (.string (((Sen.mk d ((Dw.clk ((fnE l d.dev).1) d.time).1) (((fnE l d.dev).1).point) (((fnE l d.dev).1).lane) (((fnE l d.dev).1).kind)).d).dev)), .fl (.int .i64 (((Sen.mk d ((Dw.clk ((fnE l d.dev).1) d.time).1) (((fnE l d.dev).1).point) (((fnE l d.dev).1).lane) (((fnE l d.dev).1).kind)).d).seq)), .fl (.int .i64 (((Sen.mk d ((Dw.clk ((fnE l d.dev).1) d.time).1) (((fnE l d.dev).1).point) (((fnE l d.dev).1).lane) (((fnE l d.dev).1).kind)).d).time)), .fl (.string (((Sen.mk d ((Dw.clk ((fnE l d.dev).1) d.time).1) (((fnE l d.dev).1).point) (((fnE l d.dev).1).lane) (((fnE l d.dev).1).kind)).d).tag)), .fl (.string (((Sen.mk d ((Dw.clk ((fnE l d.dev).1) d.time).1) (((fnE l d.dev).1).point) (((fnE l d.dev).1).lane) (((fnE l d.dev).1).kind)).d).plate)), .fl (.int .i64 (((Sen.mk d ((Dw.clk ((fnE l d.dev).1) d.time).1) (((fnE l d.dev).1).point) (((fnE l d.dev).1).lane) (((fnE l d.dev).1).kind)).d).axl)), .fl (.int .i64 (((Sen.mk d ((Dw.clk ((fnE l d.dev).1) d.time).1) (((fnE l d.dev).1).point) (((fnE l d.dev).1).lane) (((fnE l d.dev).1).kind)).d).score)), .fl (.int .i64 ((Sen.mk d ((Dw.clk ((fnE l d.dev).1) d.time).1) (((fnE l d.dev).1).point) (((fnE l d.dev).1).lane) (((fnE l d.dev).1).kind)).time)), .fl (.string ((Sen.mk d ((Dw.clk ((fnE l d.dev).1) d.time).1) (((fnE l d.dev).1).point) (((fnE l d.dev).1).lane) (((fnE l d.dev).1).kind)).point)), .fl (.int .i64 ((Sen.mk d ((Dw.clk ((fnE l d.dev).1) d.time).1) (((fnE l d.dev).1).point) (((fnE l d.dev).1).lane) (((fnE l d.dev).1).kind)).lane)), .fl (.int .i64 ((Sen.mk d ((Dw.clk ((fnE l d.dev).1) d.time).1) (((fnE l d.dev).1).point) (((fnE l d.dev).1).lane) (((fnE l d.dev).1).kind)).kind))]) ⟨Cv.refl _, Cv.refl _, Cv.refl _, Cv.refl _, Cv.refl _, Cv.refl _, Cv.refl _, Cv.refl _, Cv.refl _, Cv.refl _, Cv.refl _, trivial⟩)) (.cons (.tmp rfl (.d _)) .nil)), ?_⟩
                  have gI : inL d = true := inL_yes (by omega)
                  have hu : rsn (fnC l d) = (0, (Dw.clk ((fnE l d.dev).1) d.time).1) := by unfold rsn fnC; simp only [gI, h1, h3, h4, h6, h8, h10, h12, h14, h15, h17, h18, h20, Bool.true_or, Bool.false_or, Bool.or_true, Bool.or_false, Bool.not_true, Bool.not_false, cond_true, cond_false, Bool.true_and, Bool.false_and, Bool.and_true, Bool.and_false] <;> rfl
                  rw [rs_cr0 hu, hu]; rfl
          · skip
            have h21 := t_dec h10
            refine rg_put (d := 39) (v := .d (.fl undef)) rfl (on rfl rfl rfl h10) ?_
            refine rg_put (d := 40) (v := .d (.fl undef)) rfl (on rfl rfl rfl h10) ?_
            refine rg_put (d := 41) (v := .d (.fl undef)) rfl (on rfl rfl rfl h10) ?_
            refine rg_put (d := 42) (v := .d (.fl undef)) rfl (on rfl rfl rfl h10) ?_
            refine rg_put (d := 43) (v := .d (.fl undef)) rfl (on rfl rfl rfl h10) ?_
            refine rg_put (d := 44) (v := .d (.fl (.bool true))) rfl (og rfl (op_pick rfl rfl (by rw [h10]; rfl) rfl)) ?_
            refine rg_done rfl ?_
            refine a_condK rfl rfl ?_
            refine a_rseq ?_
            refine rg_put (d := 45) (v := .d (.ag (eSen ((Sen.mk ((Den.mk (⟨#[]⟩) 0 0 (⟨#[]⟩) (⟨#[]⟩) 0 0)) 0 (⟨#[]⟩) 0 0))))) rfl (og rfl (of_eff (op_build rfl Tryz.underlying44 ti44 rfl (by kernel_rfl) (by kernel_rfl) (pl := #[(0, 7), (7, 1), (8, 1), (9, 1), (10, 1)]) (by kernel_rfl) .nil rfl) rfl)) ?_
            refine rg_sto (nw := [(102, .bx 44 ((eSen ((Sen.mk ((Den.mk (⟨#[]⟩) 0 0 (⟨#[]⟩) (⟨#[]⟩) 0 0)) 0 (⟨#[]⟩) 0 0)))))]) rfl (og rfl (of_eff (s_store rfl rfl ti44 rfl rfl rfl rfl rfl rfl) rfl)) ?_
            refine rg_put (d := 5) (v := .d (.fl (.int .i64 3))) rfl (og rfl (op_assign rfl rfl rfl)) ?_
            refine rg_done rfl ?_
            refine a_ret ?_
            show ∃ ds, ResL _ _ _ ds ∧ RV.of ds = _
            refine ⟨[.ag [.fl (.string (((Sen.mk (Den.mk (⟨#[]⟩) 0 0 (⟨#[]⟩) (⟨#[]⟩) 0 0) 0 (⟨#[]⟩) 0 0).d).dev)), .fl (.int .i64 (((Sen.mk (Den.mk (⟨#[]⟩) 0 0 (⟨#[]⟩) (⟨#[]⟩) 0 0) 0 (⟨#[]⟩) 0 0).d).seq)), .fl (.int .i64 (((Sen.mk (Den.mk (⟨#[]⟩) 0 0 (⟨#[]⟩) (⟨#[]⟩) 0 0) 0 (⟨#[]⟩) 0 0).d).time)), .fl (.string (((Sen.mk (Den.mk (⟨#[]⟩) 0 0 (⟨#[]⟩) (⟨#[]⟩) 0 0) 0 (⟨#[]⟩) 0 0).d).tag)), .fl (.string (((Sen.mk (Den.mk (⟨#[]⟩) 0 0 (⟨#[]⟩) (⟨#[]⟩) 0 0) 0 (⟨#[]⟩) 0 0).d).plate)), .fl (.int .i64 (((Sen.mk (Den.mk (⟨#[]⟩) 0 0 (⟨#[]⟩) (⟨#[]⟩) 0 0) 0 (⟨#[]⟩) 0 0).d).axl)), .fl (.int .i64 (((Sen.mk (Den.mk (⟨#[]⟩) 0 0 (⟨#[]⟩) (⟨#[]⟩) 0 0) 0 (⟨#[]⟩) 0 0).d).score)), .fl (.int .i64 ((Sen.mk (Den.mk (⟨#[]⟩) 0 0 (⟨#[]⟩) (⟨#[]⟩) 0 0) 0 (⟨#[]⟩) 0 0).time)), .fl (.string ((Sen.mk (Den.mk (⟨#[]⟩) 0 0 (⟨#[]⟩) (⟨#[]⟩) 0 0) 0 (⟨#[]⟩) 0 0).point)), .fl (.int .i64 ((Sen.mk (Den.mk (⟨#[]⟩) 0 0 (⟨#[]⟩) (⟨#[]⟩) 0 0) 0 (⟨#[]⟩) 0 0).lane)), .fl (.int .i64 ((Sen.mk (Den.mk (⟨#[]⟩) 0 0 (⟨#[]⟩) (⟨#[]⟩) 0 0) 0 (⟨#[]⟩) 0 0).kind))], .fl (.int .i64 3)], (.cons (.cellT rfl rfl Tryz.underlying44 rfl ti44 rfl (Cv.ag (xs := [.fl (.string (((Sen.mk (Den.mk (⟨#[]⟩) 0 0 (⟨#[]⟩) (⟨#[]⟩) 0 0) 0 (⟨#[]⟩) 0 0).d).dev)), .fl (.int .i64 (((Sen.mk (Den.mk (⟨#[]⟩) 0 0 (⟨#[]⟩) (⟨#[]⟩) 0 0) 0 (⟨#[]⟩) 0 0).d).seq)), .fl (.int .i64 (((Sen.mk (Den.mk (⟨#[]⟩) 0 0 (⟨#[]⟩) (⟨#[]⟩) 0 0) 0 (⟨#[]⟩) 0 0).d).time)), .fl (.string (((Sen.mk (Den.mk (⟨#[]⟩) 0 0 (⟨#[]⟩) (⟨#[]⟩) 0 0) 0 (⟨#[]⟩) 0 0).d).tag)), .fl (.string (((Sen.mk (Den.mk (⟨#[]⟩) 0 0 (⟨#[]⟩) (⟨#[]⟩) 0 0) 0 (⟨#[]⟩) 0 0).d).plate)), .fl (.int .i64 (((Sen.mk (Den.mk (⟨#[]⟩) 0 0 (⟨#[]⟩) (⟨#[]⟩) 0 0) 0 (⟨#[]⟩) 0 0).d).axl)), .fl (.int .i64 (((Sen.mk (Den.mk (⟨#[]⟩) 0 0 (⟨#[]⟩) (⟨#[]⟩) 0 0) 0 (⟨#[]⟩) 0 0).d).score)), .fl (.int .i64 ((Sen.mk (Den.mk (⟨#[]⟩) 0 0 (⟨#[]⟩) (⟨#[]⟩) 0 0) 0 (⟨#[]⟩) 0 0).time)), .fl (.string ((Sen.mk (Den.mk (⟨#[]⟩) 0 0 (⟨#[]⟩) (⟨#[]⟩) 0 0) 0 (⟨#[]⟩) 0 0).point)), .fl (.int .i64 ((Sen.mk (Den.mk (⟨#[]⟩) 0 0 (⟨#[]⟩) (⟨#[]⟩) 0 0) 0 (⟨#[]⟩) 0 0).lane)), .fl (.int .i64 ((Sen.mk (Den.mk (⟨#[]⟩) 0 0 (⟨#[]⟩) (⟨#[]⟩) 0 0) 0 (⟨#[]⟩) 0 0).kind))]) (ys := [.fl (.string (((Sen.mk (Den.mk (⟨#[]⟩) 0 0 (⟨#[]⟩) (⟨#[]⟩) 0 0) 0 (⟨#[]⟩) 0 0).d).dev)), .fl (.int .i64 (((Sen.mk (Den.mk (⟨#[]⟩) 0 0 (⟨#[]⟩) (⟨#[]⟩) 0 0) 0 (⟨#[]⟩) 0 0).d).seq)), .fl (.int .i64 (((Sen.mk (Den.mk (⟨#[]⟩) 0 0 (⟨#[]⟩) (⟨#[]⟩) 0 0) 0 (⟨#[]⟩) 0 0).d).time)), .fl (.string (((Sen.mk (Den.mk (⟨#[]⟩) 0 0 (⟨#[]⟩) (⟨#[]⟩) 0 0) 0 (⟨#[]⟩) 0 0).d).tag)), .fl (.string (((Sen.mk (Den.mk (⟨#[]⟩) 0 0 (⟨#[]⟩) (⟨#[]⟩) 0 0) 0 (⟨#[]⟩) 0 0).d).plate)), .fl (.int .i64 (((Sen.mk (Den.mk (⟨#[]⟩) 0 0 (⟨#[]⟩) (⟨#[]⟩) 0 0) 0 (⟨#[]⟩) 0 0).d).axl)), .fl (.int .i64 (((Sen.mk (Den.mk (⟨#[]⟩) 0 0 (⟨#[]⟩) (⟨#[]⟩) 0 0) 0 (⟨#[]⟩) 0 0).d).score)), .fl (.int .i64 ((Sen.mk (Den.mk (⟨#[]⟩) 0 0 (⟨#[]⟩) (⟨#[]⟩) 0 0) 0 (⟨#[]⟩) 0 0).time)), .fl (.string ((Sen.mk (Den.mk (⟨#[]⟩) 0 0 (⟨#[]⟩) (⟨#[]⟩) 0 0) 0 (⟨#[]⟩) 0 0).point)), .fl (.int .i64 ((Sen.mk (Den.mk (⟨#[]⟩) 0 0 (⟨#[]⟩) (⟨#[]⟩) 0 0) 0 (⟨#[]⟩) 0 0).lane)), .fl (.int .i64 ((Sen.mk (Den.mk (⟨#[]⟩) 0 0 (⟨#[]⟩) (⟨#[]⟩) 0 0) 0 (⟨#[]⟩) 0 0).kind))]) ⟨Cv.refl _, Cv.refl _, Cv.refl _, Cv.refl _, Cv.refl _, Cv.refl _, Cv.refl _, Cv.refl _, Cv.refl _, Cv.refl _, Cv.refl _, trivial⟩)) (.cons (.tmp rfl (.d _)) .nil)), ?_⟩
            have gI : inL d = false := inL_no (by omega)
            have hu : rsn (fnC l d) = (3, 0) := by unfold rsn fnC; simp only [gI, h1, h3, h4, h6, h8, h10, Bool.true_or, Bool.false_or, Bool.or_true, Bool.or_false, Bool.not_true, Bool.not_false, cond_true, cond_false, Bool.true_and, Bool.false_and, Bool.and_true, Bool.and_false] <;> rfl
            rw [rs_cr hu (by decide), hu]; rfl
        · skip
          have h22 := t_dec h8
          refine rg_put (d := 34) (v := .d (.fl undef)) rfl (on rfl rfl rfl h8) ?_
          refine rg_put (d := 35) (v := .d (.fl undef)) rfl (on rfl rfl rfl h8) ?_
          refine rg_put (d := 36) (v := .d (.fl undef)) rfl (on rfl rfl rfl h8) ?_
          refine rg_put (d := 37) (v := .d (.fl (.bool true))) rfl (og rfl (op_pick rfl rfl (by rw [h8]; rfl) rfl)) ?_
          refine rg_put (d := 38) (v := .d (.fl (.bool true))) rfl (og rfl (op_move rfl rfl rfl)) ?_
          refine rg_put (d := 39) (v := .d (.fl undef)) rfl (on rfl rfl rfl rfl) ?_
          refine rg_put (d := 40) (v := .d (.fl undef)) rfl (on rfl rfl rfl rfl) ?_
          refine rg_put (d := 41) (v := .d (.fl undef)) rfl (on rfl rfl rfl rfl) ?_
          refine rg_put (d := 42) (v := .d (.fl undef)) rfl (on rfl rfl rfl rfl) ?_
          refine rg_put (d := 43) (v := .d (.fl undef)) rfl (on rfl rfl rfl rfl) ?_
          refine rg_put (d := 44) (v := .d (.fl (.bool true))) rfl (og rfl (op_pick rfl rfl rfl rfl)) ?_
          refine rg_done rfl ?_
          refine a_condK rfl rfl ?_
          refine a_rseq ?_
          refine rg_put (d := 45) (v := .d (.ag (eSen ((Sen.mk ((Den.mk (⟨#[]⟩) 0 0 (⟨#[]⟩) (⟨#[]⟩) 0 0)) 0 (⟨#[]⟩) 0 0))))) rfl (og rfl (of_eff (op_build rfl Tryz.underlying44 ti44 rfl (by kernel_rfl) (by kernel_rfl) (pl := #[(0, 7), (7, 1), (8, 1), (9, 1), (10, 1)]) (by kernel_rfl) .nil rfl) rfl)) ?_
          refine rg_sto (nw := [(102, .bx 44 ((eSen ((Sen.mk ((Den.mk (⟨#[]⟩) 0 0 (⟨#[]⟩) (⟨#[]⟩) 0 0)) 0 (⟨#[]⟩) 0 0)))))]) rfl (og rfl (of_eff (s_store rfl rfl ti44 rfl rfl rfl rfl rfl rfl) rfl)) ?_
          refine rg_put (d := 5) (v := .d (.fl (.int .i64 3))) rfl (og rfl (op_assign rfl rfl rfl)) ?_
          refine rg_done rfl ?_
          refine a_ret ?_
          show ∃ ds, ResL _ _ _ ds ∧ RV.of ds = _
          refine ⟨[.ag [.fl (.string (((Sen.mk (Den.mk (⟨#[]⟩) 0 0 (⟨#[]⟩) (⟨#[]⟩) 0 0) 0 (⟨#[]⟩) 0 0).d).dev)), .fl (.int .i64 (((Sen.mk (Den.mk (⟨#[]⟩) 0 0 (⟨#[]⟩) (⟨#[]⟩) 0 0) 0 (⟨#[]⟩) 0 0).d).seq)), .fl (.int .i64 (((Sen.mk (Den.mk (⟨#[]⟩) 0 0 (⟨#[]⟩) (⟨#[]⟩) 0 0) 0 (⟨#[]⟩) 0 0).d).time)), .fl (.string (((Sen.mk (Den.mk (⟨#[]⟩) 0 0 (⟨#[]⟩) (⟨#[]⟩) 0 0) 0 (⟨#[]⟩) 0 0).d).tag)), .fl (.string (((Sen.mk (Den.mk (⟨#[]⟩) 0 0 (⟨#[]⟩) (⟨#[]⟩) 0 0) 0 (⟨#[]⟩) 0 0).d).plate)), .fl (.int .i64 (((Sen.mk (Den.mk (⟨#[]⟩) 0 0 (⟨#[]⟩) (⟨#[]⟩) 0 0) 0 (⟨#[]⟩) 0 0).d).axl)), .fl (.int .i64 (((Sen.mk (Den.mk (⟨#[]⟩) 0 0 (⟨#[]⟩) (⟨#[]⟩) 0 0) 0 (⟨#[]⟩) 0 0).d).score)), .fl (.int .i64 ((Sen.mk (Den.mk (⟨#[]⟩) 0 0 (⟨#[]⟩) (⟨#[]⟩) 0 0) 0 (⟨#[]⟩) 0 0).time)), .fl (.string ((Sen.mk (Den.mk (⟨#[]⟩) 0 0 (⟨#[]⟩) (⟨#[]⟩) 0 0) 0 (⟨#[]⟩) 0 0).point)), .fl (.int .i64 ((Sen.mk (Den.mk (⟨#[]⟩) 0 0 (⟨#[]⟩) (⟨#[]⟩) 0 0) 0 (⟨#[]⟩) 0 0).lane)), .fl (.int .i64 ((Sen.mk (Den.mk (⟨#[]⟩) 0 0 (⟨#[]⟩) (⟨#[]⟩) 0 0) 0 (⟨#[]⟩) 0 0).kind))], .fl (.int .i64 3)], (.cons (.cellT rfl rfl Tryz.underlying44 rfl ti44 rfl (Cv.ag (xs := [.fl (.string (((Sen.mk (Den.mk (⟨#[]⟩) 0 0 (⟨#[]⟩) (⟨#[]⟩) 0 0) 0 (⟨#[]⟩) 0 0).d).dev)), .fl (.int .i64 (((Sen.mk (Den.mk (⟨#[]⟩) 0 0 (⟨#[]⟩) (⟨#[]⟩) 0 0) 0 (⟨#[]⟩) 0 0).d).seq)), .fl (.int .i64 (((Sen.mk (Den.mk (⟨#[]⟩) 0 0 (⟨#[]⟩) (⟨#[]⟩) 0 0) 0 (⟨#[]⟩) 0 0).d).time)), .fl (.string (((Sen.mk (Den.mk (⟨#[]⟩) 0 0 (⟨#[]⟩) (⟨#[]⟩) 0 0) 0 (⟨#[]⟩) 0 0).d).tag)), .fl (.string (((Sen.mk (Den.mk (⟨#[]⟩) 0 0 (⟨#[]⟩) (⟨#[]⟩) 0 0) 0 (⟨#[]⟩) 0 0).d).plate)), .fl (.int .i64 (((Sen.mk (Den.mk (⟨#[]⟩) 0 0 (⟨#[]⟩) (⟨#[]⟩) 0 0) 0 (⟨#[]⟩) 0 0).d).axl)), .fl (.int .i64 (((Sen.mk (Den.mk (⟨#[]⟩) 0 0 (⟨#[]⟩) (⟨#[]⟩) 0 0) 0 (⟨#[]⟩) 0 0).d).score)), .fl (.int .i64 ((Sen.mk (Den.mk (⟨#[]⟩) 0 0 (⟨#[]⟩) (⟨#[]⟩) 0 0) 0 (⟨#[]⟩) 0 0).time)), .fl (.string ((Sen.mk (Den.mk (⟨#[]⟩) 0 0 (⟨#[]⟩) (⟨#[]⟩) 0 0) 0 (⟨#[]⟩) 0 0).point)), .fl (.int .i64 ((Sen.mk (Den.mk (⟨#[]⟩) 0 0 (⟨#[]⟩) (⟨#[]⟩) 0 0) 0 (⟨#[]⟩) 0 0).lane)), .fl (.int .i64 ((Sen.mk (Den.mk (⟨#[]⟩) 0 0 (⟨#[]⟩) (⟨#[]⟩) 0 0) 0 (⟨#[]⟩) 0 0).kind))]) (ys := [.fl (.string (((Sen.mk (Den.mk (⟨#[]⟩) 0 0 (⟨#[]⟩) (⟨#[]⟩) 0 0) 0 (⟨#[]⟩) 0 0).d).dev)), .fl (.int .i64 (((Sen.mk (Den.mk (⟨#[]⟩) 0 0 (⟨#[]⟩) (⟨#[]⟩) 0 0) 0 (⟨#[]⟩) 0 0).d).seq)), .fl (.int .i64 (((Sen.mk (Den.mk (⟨#[]⟩) 0 0 (⟨#[]⟩) (⟨#[]⟩) 0 0) 0 (⟨#[]⟩) 0 0).d).time)), .fl (.string (((Sen.mk (Den.mk (⟨#[]⟩) 0 0 (⟨#[]⟩) (⟨#[]⟩) 0 0) 0 (⟨#[]⟩) 0 0).d).tag)), .fl (.string (((Sen.mk (Den.mk (⟨#[]⟩) 0 0 (⟨#[]⟩) (⟨#[]⟩) 0 0) 0 (⟨#[]⟩) 0 0).d).plate)), .fl (.int .i64 (((Sen.mk (Den.mk (⟨#[]⟩) 0 0 (⟨#[]⟩) (⟨#[]⟩) 0 0) 0 (⟨#[]⟩) 0 0).d).axl)), .fl (.int .i64 (((Sen.mk (Den.mk (⟨#[]⟩) 0 0 (⟨#[]⟩) (⟨#[]⟩) 0 0) 0 (⟨#[]⟩) 0 0).d).score)), .fl (.int .i64 ((Sen.mk (Den.mk (⟨#[]⟩) 0 0 (⟨#[]⟩) (⟨#[]⟩) 0 0) 0 (⟨#[]⟩) 0 0).time)), .fl (.string ((Sen.mk (Den.mk (⟨#[]⟩) 0 0 (⟨#[]⟩) (⟨#[]⟩) 0 0) 0 (⟨#[]⟩) 0 0).point)), .fl (.int .i64 ((Sen.mk (Den.mk (⟨#[]⟩) 0 0 (⟨#[]⟩) (⟨#[]⟩) 0 0) 0 (⟨#[]⟩) 0 0).lane)), .fl (.int .i64 ((Sen.mk (Den.mk (⟨#[]⟩) 0 0 (⟨#[]⟩) (⟨#[]⟩) 0 0) 0 (⟨#[]⟩) 0 0).kind))]) ⟨Cv.refl _, Cv.refl _, Cv.refl _, Cv.refl _, Cv.refl _, Cv.refl _, Cv.refl _, Cv.refl _, Cv.refl _, Cv.refl _, Cv.refl _, trivial⟩)) (.cons (.tmp rfl (.d _)) .nil)), ?_⟩
          have gI : inL d = false := inL_no (by omega)
          have hu : rsn (fnC l d) = (3, 0) := by unfold rsn fnC; simp only [gI, h1, h3, h4, h6, h8, Bool.true_or, Bool.false_or, Bool.or_true, Bool.or_false, Bool.not_true, Bool.not_false, cond_true, cond_false, Bool.true_and, Bool.false_and, Bool.and_true, Bool.and_false] <;> rfl
          rw [rs_cr hu (by decide), hu]; rfl
      · skip
        have h23 := t_dec h6
        refine rg_put (d := 29) (v := .d (.fl undef)) rfl (on rfl rfl rfl h6) ?_
        refine rg_put (d := 30) (v := .d (.fl undef)) rfl (on rfl rfl rfl h6) ?_
        refine rg_put (d := 31) (v := .d (.fl undef)) rfl (on rfl rfl rfl h6) ?_
        refine rg_put (d := 32) (v := .d (.fl (.bool true))) rfl (og rfl (op_pick rfl rfl (by rw [h6]; rfl) rfl)) ?_
        refine rg_put (d := 33) (v := .d (.fl (.bool true))) rfl (og rfl (op_move rfl rfl rfl)) ?_
        refine rg_put (d := 34) (v := .d (.fl undef)) rfl (on rfl rfl rfl rfl) ?_
        refine rg_put (d := 35) (v := .d (.fl undef)) rfl (on rfl rfl rfl rfl) ?_
        refine rg_put (d := 36) (v := .d (.fl undef)) rfl (on rfl rfl rfl rfl) ?_
        refine rg_put (d := 37) (v := .d (.fl (.bool true))) rfl (og rfl (op_pick rfl rfl rfl rfl)) ?_
        refine rg_put (d := 38) (v := .d (.fl (.bool true))) rfl (og rfl (op_move rfl rfl rfl)) ?_
        refine rg_put (d := 39) (v := .d (.fl undef)) rfl (on rfl rfl rfl rfl) ?_
        refine rg_put (d := 40) (v := .d (.fl undef)) rfl (on rfl rfl rfl rfl) ?_
        refine rg_put (d := 41) (v := .d (.fl undef)) rfl (on rfl rfl rfl rfl) ?_
        refine rg_put (d := 42) (v := .d (.fl undef)) rfl (on rfl rfl rfl rfl) ?_
        refine rg_put (d := 43) (v := .d (.fl undef)) rfl (on rfl rfl rfl rfl) ?_
        refine rg_put (d := 44) (v := .d (.fl (.bool true))) rfl (og rfl (op_pick rfl rfl rfl rfl)) ?_
        refine rg_done rfl ?_
        refine a_condK rfl rfl ?_
        refine a_rseq ?_
        refine rg_put (d := 45) (v := .d (.ag (eSen ((Sen.mk ((Den.mk (⟨#[]⟩) 0 0 (⟨#[]⟩) (⟨#[]⟩) 0 0)) 0 (⟨#[]⟩) 0 0))))) rfl (og rfl (of_eff (op_build rfl Tryz.underlying44 ti44 rfl (by kernel_rfl) (by kernel_rfl) (pl := #[(0, 7), (7, 1), (8, 1), (9, 1), (10, 1)]) (by kernel_rfl) .nil rfl) rfl)) ?_
        refine rg_sto (nw := [(102, .bx 44 ((eSen ((Sen.mk ((Den.mk (⟨#[]⟩) 0 0 (⟨#[]⟩) (⟨#[]⟩) 0 0)) 0 (⟨#[]⟩) 0 0)))))]) rfl (og rfl (of_eff (s_store rfl rfl ti44 rfl rfl rfl rfl rfl rfl) rfl)) ?_
        refine rg_put (d := 5) (v := .d (.fl (.int .i64 3))) rfl (og rfl (op_assign rfl rfl rfl)) ?_
        refine rg_done rfl ?_
        refine a_ret ?_
        show ∃ ds, ResL _ _ _ ds ∧ RV.of ds = _
        refine ⟨[.ag [.fl (.string (((Sen.mk (Den.mk (⟨#[]⟩) 0 0 (⟨#[]⟩) (⟨#[]⟩) 0 0) 0 (⟨#[]⟩) 0 0).d).dev)), .fl (.int .i64 (((Sen.mk (Den.mk (⟨#[]⟩) 0 0 (⟨#[]⟩) (⟨#[]⟩) 0 0) 0 (⟨#[]⟩) 0 0).d).seq)), .fl (.int .i64 (((Sen.mk (Den.mk (⟨#[]⟩) 0 0 (⟨#[]⟩) (⟨#[]⟩) 0 0) 0 (⟨#[]⟩) 0 0).d).time)), .fl (.string (((Sen.mk (Den.mk (⟨#[]⟩) 0 0 (⟨#[]⟩) (⟨#[]⟩) 0 0) 0 (⟨#[]⟩) 0 0).d).tag)), .fl (.string (((Sen.mk (Den.mk (⟨#[]⟩) 0 0 (⟨#[]⟩) (⟨#[]⟩) 0 0) 0 (⟨#[]⟩) 0 0).d).plate)), .fl (.int .i64 (((Sen.mk (Den.mk (⟨#[]⟩) 0 0 (⟨#[]⟩) (⟨#[]⟩) 0 0) 0 (⟨#[]⟩) 0 0).d).axl)), .fl (.int .i64 (((Sen.mk (Den.mk (⟨#[]⟩) 0 0 (⟨#[]⟩) (⟨#[]⟩) 0 0) 0 (⟨#[]⟩) 0 0).d).score)), .fl (.int .i64 ((Sen.mk (Den.mk (⟨#[]⟩) 0 0 (⟨#[]⟩) (⟨#[]⟩) 0 0) 0 (⟨#[]⟩) 0 0).time)), .fl (.string ((Sen.mk (Den.mk (⟨#[]⟩) 0 0 (⟨#[]⟩) (⟨#[]⟩) 0 0) 0 (⟨#[]⟩) 0 0).point)), .fl (.int .i64 ((Sen.mk (Den.mk (⟨#[]⟩) 0 0 (⟨#[]⟩) (⟨#[]⟩) 0 0) 0 (⟨#[]⟩) 0 0).lane)), .fl (.int .i64 ((Sen.mk (Den.mk (⟨#[]⟩) 0 0 (⟨#[]⟩) (⟨#[]⟩) 0 0) 0 (⟨#[]⟩) 0 0).kind))], .fl (.int .i64 3)], (.cons (.cellT rfl rfl Tryz.underlying44 rfl ti44 rfl (Cv.ag (xs := [.fl (.string (((Sen.mk (Den.mk (⟨#[]⟩) 0 0 (⟨#[]⟩) (⟨#[]⟩) 0 0) 0 (⟨#[]⟩) 0 0).d).dev)), .fl (.int .i64 (((Sen.mk (Den.mk (⟨#[]⟩) 0 0 (⟨#[]⟩) (⟨#[]⟩) 0 0) 0 (⟨#[]⟩) 0 0).d).seq)), .fl (.int .i64 (((Sen.mk (Den.mk (⟨#[]⟩) 0 0 (⟨#[]⟩) (⟨#[]⟩) 0 0) 0 (⟨#[]⟩) 0 0).d).time)), .fl (.string (((Sen.mk (Den.mk (⟨#[]⟩) 0 0 (⟨#[]⟩) (⟨#[]⟩) 0 0) 0 (⟨#[]⟩) 0 0).d).tag)), .fl (.string (((Sen.mk (Den.mk (⟨#[]⟩) 0 0 (⟨#[]⟩) (⟨#[]⟩) 0 0) 0 (⟨#[]⟩) 0 0).d).plate)), .fl (.int .i64 (((Sen.mk (Den.mk (⟨#[]⟩) 0 0 (⟨#[]⟩) (⟨#[]⟩) 0 0) 0 (⟨#[]⟩) 0 0).d).axl)), .fl (.int .i64 (((Sen.mk (Den.mk (⟨#[]⟩) 0 0 (⟨#[]⟩) (⟨#[]⟩) 0 0) 0 (⟨#[]⟩) 0 0).d).score)), .fl (.int .i64 ((Sen.mk (Den.mk (⟨#[]⟩) 0 0 (⟨#[]⟩) (⟨#[]⟩) 0 0) 0 (⟨#[]⟩) 0 0).time)), .fl (.string ((Sen.mk (Den.mk (⟨#[]⟩) 0 0 (⟨#[]⟩) (⟨#[]⟩) 0 0) 0 (⟨#[]⟩) 0 0).point)), .fl (.int .i64 ((Sen.mk (Den.mk (⟨#[]⟩) 0 0 (⟨#[]⟩) (⟨#[]⟩) 0 0) 0 (⟨#[]⟩) 0 0).lane)), .fl (.int .i64 ((Sen.mk (Den.mk (⟨#[]⟩) 0 0 (⟨#[]⟩) (⟨#[]⟩) 0 0) 0 (⟨#[]⟩) 0 0).kind))]) (ys := [.fl (.string (((Sen.mk (Den.mk (⟨#[]⟩) 0 0 (⟨#[]⟩) (⟨#[]⟩) 0 0) 0 (⟨#[]⟩) 0 0).d).dev)), .fl (.int .i64 (((Sen.mk (Den.mk (⟨#[]⟩) 0 0 (⟨#[]⟩) (⟨#[]⟩) 0 0) 0 (⟨#[]⟩) 0 0).d).seq)), .fl (.int .i64 (((Sen.mk (Den.mk (⟨#[]⟩) 0 0 (⟨#[]⟩) (⟨#[]⟩) 0 0) 0 (⟨#[]⟩) 0 0).d).time)), .fl (.string (((Sen.mk (Den.mk (⟨#[]⟩) 0 0 (⟨#[]⟩) (⟨#[]⟩) 0 0) 0 (⟨#[]⟩) 0 0).d).tag)), .fl (.string (((Sen.mk (Den.mk (⟨#[]⟩) 0 0 (⟨#[]⟩) (⟨#[]⟩) 0 0) 0 (⟨#[]⟩) 0 0).d).plate)), .fl (.int .i64 (((Sen.mk (Den.mk (⟨#[]⟩) 0 0 (⟨#[]⟩) (⟨#[]⟩) 0 0) 0 (⟨#[]⟩) 0 0).d).axl)), .fl (.int .i64 (((Sen.mk (Den.mk (⟨#[]⟩) 0 0 (⟨#[]⟩) (⟨#[]⟩) 0 0) 0 (⟨#[]⟩) 0 0).d).score)), .fl (.int .i64 ((Sen.mk (Den.mk (⟨#[]⟩) 0 0 (⟨#[]⟩) (⟨#[]⟩) 0 0) 0 (⟨#[]⟩) 0 0).time)), .fl (.string ((Sen.mk (Den.mk (⟨#[]⟩) 0 0 (⟨#[]⟩) (⟨#[]⟩) 0 0) 0 (⟨#[]⟩) 0 0).point)), .fl (.int .i64 ((Sen.mk (Den.mk (⟨#[]⟩) 0 0 (⟨#[]⟩) (⟨#[]⟩) 0 0) 0 (⟨#[]⟩) 0 0).lane)), .fl (.int .i64 ((Sen.mk (Den.mk (⟨#[]⟩) 0 0 (⟨#[]⟩) (⟨#[]⟩) 0 0) 0 (⟨#[]⟩) 0 0).kind))]) ⟨Cv.refl _, Cv.refl _, Cv.refl _, Cv.refl _, Cv.refl _, Cv.refl _, Cv.refl _, Cv.refl _, Cv.refl _, Cv.refl _, Cv.refl _, trivial⟩)) (.cons (.tmp rfl (.d _)) .nil)), ?_⟩
        have gI : inL d = false := inL_no (by omega)
        have hu : rsn (fnC l d) = (3, 0) := by unfold rsn fnC; simp only [gI, h1, h3, h4, h6, Bool.true_or, Bool.false_or, Bool.or_true, Bool.or_false, Bool.not_true, Bool.not_false, cond_true, cond_false, Bool.true_and, Bool.false_and, Bool.and_true, Bool.and_false] <;> rfl
        rw [rs_cr hu (by decide), hu]; rfl
    · skip
      have h24 := t_dec h4
      refine rg_put (d := 24) (v := .d (.fl undef)) rfl (on rfl rfl rfl h4) ?_
      refine rg_put (d := 25) (v := .d (.fl undef)) rfl (on rfl rfl rfl h4) ?_
      refine rg_put (d := 26) (v := .d (.fl undef)) rfl (on rfl rfl rfl h4) ?_
      refine rg_put (d := 27) (v := .d (.fl (.bool true))) rfl (og rfl (op_pick rfl rfl (by rw [h4]; rfl) rfl)) ?_
      refine rg_put (d := 28) (v := .d (.fl (.bool true))) rfl (og rfl (op_move rfl rfl rfl)) ?_
      refine rg_put (d := 29) (v := .d (.fl undef)) rfl (on rfl rfl rfl rfl) ?_
      refine rg_put (d := 30) (v := .d (.fl undef)) rfl (on rfl rfl rfl rfl) ?_
      refine rg_put (d := 31) (v := .d (.fl undef)) rfl (on rfl rfl rfl rfl) ?_
      refine rg_put (d := 32) (v := .d (.fl (.bool true))) rfl (og rfl (op_pick rfl rfl rfl rfl)) ?_
      refine rg_put (d := 33) (v := .d (.fl (.bool true))) rfl (og rfl (op_move rfl rfl rfl)) ?_
      refine rg_put (d := 34) (v := .d (.fl undef)) rfl (on rfl rfl rfl rfl) ?_
      refine rg_put (d := 35) (v := .d (.fl undef)) rfl (on rfl rfl rfl rfl) ?_
      refine rg_put (d := 36) (v := .d (.fl undef)) rfl (on rfl rfl rfl rfl) ?_
      refine rg_put (d := 37) (v := .d (.fl (.bool true))) rfl (og rfl (op_pick rfl rfl rfl rfl)) ?_
      refine rg_put (d := 38) (v := .d (.fl (.bool true))) rfl (og rfl (op_move rfl rfl rfl)) ?_
      refine rg_put (d := 39) (v := .d (.fl undef)) rfl (on rfl rfl rfl rfl) ?_
      refine rg_put (d := 40) (v := .d (.fl undef)) rfl (on rfl rfl rfl rfl) ?_
      refine rg_put (d := 41) (v := .d (.fl undef)) rfl (on rfl rfl rfl rfl) ?_
      refine rg_put (d := 42) (v := .d (.fl undef)) rfl (on rfl rfl rfl rfl) ?_
      refine rg_put (d := 43) (v := .d (.fl undef)) rfl (on rfl rfl rfl rfl) ?_
      refine rg_put (d := 44) (v := .d (.fl (.bool true))) rfl (og rfl (op_pick rfl rfl rfl rfl)) ?_
      refine rg_done rfl ?_
      refine a_condK rfl rfl ?_
      refine a_rseq ?_
      refine rg_put (d := 45) (v := .d (.ag (eSen ((Sen.mk ((Den.mk (⟨#[]⟩) 0 0 (⟨#[]⟩) (⟨#[]⟩) 0 0)) 0 (⟨#[]⟩) 0 0))))) rfl (og rfl (of_eff (op_build rfl Tryz.underlying44 ti44 rfl (by kernel_rfl) (by kernel_rfl) (pl := #[(0, 7), (7, 1), (8, 1), (9, 1), (10, 1)]) (by kernel_rfl) .nil rfl) rfl)) ?_
      refine rg_sto (nw := [(102, .bx 44 ((eSen ((Sen.mk ((Den.mk (⟨#[]⟩) 0 0 (⟨#[]⟩) (⟨#[]⟩) 0 0)) 0 (⟨#[]⟩) 0 0)))))]) rfl (og rfl (of_eff (s_store rfl rfl ti44 rfl rfl rfl rfl rfl rfl) rfl)) ?_
      refine rg_put (d := 5) (v := .d (.fl (.int .i64 3))) rfl (og rfl (op_assign rfl rfl rfl)) ?_
      refine rg_done rfl ?_
      refine a_ret ?_
      show ∃ ds, ResL _ _ _ ds ∧ RV.of ds = _
      refine ⟨[.ag [.fl (.string (((Sen.mk (Den.mk (⟨#[]⟩) 0 0 (⟨#[]⟩) (⟨#[]⟩) 0 0) 0 (⟨#[]⟩) 0 0).d).dev)), .fl (.int .i64 (((Sen.mk (Den.mk (⟨#[]⟩) 0 0 (⟨#[]⟩) (⟨#[]⟩) 0 0) 0 (⟨#[]⟩) 0 0).d).seq)), .fl (.int .i64 (((Sen.mk (Den.mk (⟨#[]⟩) 0 0 (⟨#[]⟩) (⟨#[]⟩) 0 0) 0 (⟨#[]⟩) 0 0).d).time)), .fl (.string (((Sen.mk (Den.mk (⟨#[]⟩) 0 0 (⟨#[]⟩) (⟨#[]⟩) 0 0) 0 (⟨#[]⟩) 0 0).d).tag)), .fl (.string (((Sen.mk (Den.mk (⟨#[]⟩) 0 0 (⟨#[]⟩) (⟨#[]⟩) 0 0) 0 (⟨#[]⟩) 0 0).d).plate)), .fl (.int .i64 (((Sen.mk (Den.mk (⟨#[]⟩) 0 0 (⟨#[]⟩) (⟨#[]⟩) 0 0) 0 (⟨#[]⟩) 0 0).d).axl)), .fl (.int .i64 (((Sen.mk (Den.mk (⟨#[]⟩) 0 0 (⟨#[]⟩) (⟨#[]⟩) 0 0) 0 (⟨#[]⟩) 0 0).d).score)), .fl (.int .i64 ((Sen.mk (Den.mk (⟨#[]⟩) 0 0 (⟨#[]⟩) (⟨#[]⟩) 0 0) 0 (⟨#[]⟩) 0 0).time)), .fl (.string ((Sen.mk (Den.mk (⟨#[]⟩) 0 0 (⟨#[]⟩) (⟨#[]⟩) 0 0) 0 (⟨#[]⟩) 0 0).point)), .fl (.int .i64 ((Sen.mk (Den.mk (⟨#[]⟩) 0 0 (⟨#[]⟩) (⟨#[]⟩) 0 0) 0 (⟨#[]⟩) 0 0).lane)), .fl (.int .i64 ((Sen.mk (Den.mk (⟨#[]⟩) 0 0 (⟨#[]⟩) (⟨#[]⟩) 0 0) 0 (⟨#[]⟩) 0 0).kind))], .fl (.int .i64 3)], (.cons (.cellT rfl rfl Tryz.underlying44 rfl ti44 rfl (Cv.ag (xs := [.fl (.string (((Sen.mk (Den.mk (⟨#[]⟩) 0 0 (⟨#[]⟩) (⟨#[]⟩) 0 0) 0 (⟨#[]⟩) 0 0).d).dev)), .fl (.int .i64 (((Sen.mk (Den.mk (⟨#[]⟩) 0 0 (⟨#[]⟩) (⟨#[]⟩) 0 0) 0 (⟨#[]⟩) 0 0).d).seq)), .fl (.int .i64 (((Sen.mk (Den.mk (⟨#[]⟩) 0 0 (⟨#[]⟩) (⟨#[]⟩) 0 0) 0 (⟨#[]⟩) 0 0).d).time)), .fl (.string (((Sen.mk (Den.mk (⟨#[]⟩) 0 0 (⟨#[]⟩) (⟨#[]⟩) 0 0) 0 (⟨#[]⟩) 0 0).d).tag)), .fl (.string (((Sen.mk (Den.mk (⟨#[]⟩) 0 0 (⟨#[]⟩) (⟨#[]⟩) 0 0) 0 (⟨#[]⟩) 0 0).d).plate)), .fl (.int .i64 (((Sen.mk (Den.mk (⟨#[]⟩) 0 0 (⟨#[]⟩) (⟨#[]⟩) 0 0) 0 (⟨#[]⟩) 0 0).d).axl)), .fl (.int .i64 (((Sen.mk (Den.mk (⟨#[]⟩) 0 0 (⟨#[]⟩) (⟨#[]⟩) 0 0) 0 (⟨#[]⟩) 0 0).d).score)), .fl (.int .i64 ((Sen.mk (Den.mk (⟨#[]⟩) 0 0 (⟨#[]⟩) (⟨#[]⟩) 0 0) 0 (⟨#[]⟩) 0 0).time)), .fl (.string ((Sen.mk (Den.mk (⟨#[]⟩) 0 0 (⟨#[]⟩) (⟨#[]⟩) 0 0) 0 (⟨#[]⟩) 0 0).point)), .fl (.int .i64 ((Sen.mk (Den.mk (⟨#[]⟩) 0 0 (⟨#[]⟩) (⟨#[]⟩) 0 0) 0 (⟨#[]⟩) 0 0).lane)), .fl (.int .i64 ((Sen.mk (Den.mk (⟨#[]⟩) 0 0 (⟨#[]⟩) (⟨#[]⟩) 0 0) 0 (⟨#[]⟩) 0 0).kind))]) (ys := [.fl (.string (((Sen.mk (Den.mk (⟨#[]⟩) 0 0 (⟨#[]⟩) (⟨#[]⟩) 0 0) 0 (⟨#[]⟩) 0 0).d).dev)), .fl (.int .i64 (((Sen.mk (Den.mk (⟨#[]⟩) 0 0 (⟨#[]⟩) (⟨#[]⟩) 0 0) 0 (⟨#[]⟩) 0 0).d).seq)), .fl (.int .i64 (((Sen.mk (Den.mk (⟨#[]⟩) 0 0 (⟨#[]⟩) (⟨#[]⟩) 0 0) 0 (⟨#[]⟩) 0 0).d).time)), .fl (.string (((Sen.mk (Den.mk (⟨#[]⟩) 0 0 (⟨#[]⟩) (⟨#[]⟩) 0 0) 0 (⟨#[]⟩) 0 0).d).tag)), .fl (.string (((Sen.mk (Den.mk (⟨#[]⟩) 0 0 (⟨#[]⟩) (⟨#[]⟩) 0 0) 0 (⟨#[]⟩) 0 0).d).plate)), .fl (.int .i64 (((Sen.mk (Den.mk (⟨#[]⟩) 0 0 (⟨#[]⟩) (⟨#[]⟩) 0 0) 0 (⟨#[]⟩) 0 0).d).axl)), .fl (.int .i64 (((Sen.mk (Den.mk (⟨#[]⟩) 0 0 (⟨#[]⟩) (⟨#[]⟩) 0 0) 0 (⟨#[]⟩) 0 0).d).score)), .fl (.int .i64 ((Sen.mk (Den.mk (⟨#[]⟩) 0 0 (⟨#[]⟩) (⟨#[]⟩) 0 0) 0 (⟨#[]⟩) 0 0).time)), .fl (.string ((Sen.mk (Den.mk (⟨#[]⟩) 0 0 (⟨#[]⟩) (⟨#[]⟩) 0 0) 0 (⟨#[]⟩) 0 0).point)), .fl (.int .i64 ((Sen.mk (Den.mk (⟨#[]⟩) 0 0 (⟨#[]⟩) (⟨#[]⟩) 0 0) 0 (⟨#[]⟩) 0 0).lane)), .fl (.int .i64 ((Sen.mk (Den.mk (⟨#[]⟩) 0 0 (⟨#[]⟩) (⟨#[]⟩) 0 0) 0 (⟨#[]⟩) 0 0).kind))]) ⟨Cv.refl _, Cv.refl _, Cv.refl _, Cv.refl _, Cv.refl _, Cv.refl _, Cv.refl _, Cv.refl _, Cv.refl _, Cv.refl _, Cv.refl _, trivial⟩)) (.cons (.tmp rfl (.d _)) .nil)), ?_⟩
      have gI : inL d = false := inL_no (by omega)
      have hu : rsn (fnC l d) = (3, 0) := by unfold rsn fnC; simp only [gI, h1, h3, h4, Bool.true_or, Bool.false_or, Bool.or_true, Bool.or_false, Bool.not_true, Bool.not_false, cond_true, cond_false, Bool.true_and, Bool.false_and, Bool.and_true, Bool.and_false] <;> rfl
      rw [rs_cr hu (by decide), hu]; rfl
set_option maxHeartbeats 4000000 in
set_option maxRecDepth 100000 in
theorem nuX (x : Int) : Ctr Tryz.prog 86 [.fl (.int .i64 x), .fl (.int .i64 x)] (.d (.fl (.int .i64 0))) := by
  refine ctr (n := 11) (rs := #[.tmp 4]) (L := [(0, .d (.fl (.int .i64 x))), (1, .d (.fl (.int .i64 x)))]) Tryz.func86 rfl rfl rfl rfl rfl (fun w0 U0 => ?_)
  refine a_rseq ?_
  refine rg_put (d := 4) (v := .d (.fl (.int .i64 0))) rfl (og rfl (op_assign rfl rfl rfl)) ?_
  refine rg_done rfl ?_
  refine a_seq ?_
  refine a_rseq ?_
  refine rg_put (d := 5) (v := .d (.fl (.int .i64 x))) rfl (og rfl (op_move rfl rfl rfl)) ?_
  refine rg_put (d := 6) (v := .d (.fl (.int .i64 x))) rfl (og rfl (op_move rfl rfl rfl)) ?_
  refine rg_put (d := 7) (v := .d (.fl (.bool ((decide (x < x)))))) rfl (og rfl (op_bin rfl rfl rfl (b_lss _ _ _ _) rfl)) ?_
  refine rg_done rfl ?_
  refine a_condF rfl (decide_eq_false (Int.lt_irrefl _)) ?_
  refine a_skip ?_
  show A _ _ _ _ _ _ _
  refine a_seq ?_
  refine a_rseq ?_
  refine rg_put (d := 8) (v := .d (.fl (.int .i64 x))) rfl (og rfl (op_move rfl rfl rfl)) ?_
  refine rg_put (d := 9) (v := .d (.fl (.int .i64 x))) rfl (og rfl (op_move rfl rfl rfl)) ?_
  refine rg_put (d := 10) (v := .d (.fl (.bool ((decide (x < x)))))) rfl (og rfl (op_bin rfl rfl rfl (b_gtr _ _ _ _) rfl)) ?_
  refine rg_done rfl ?_
  refine a_condF rfl (decide_eq_false (Int.lt_irrefl _)) ?_
  refine a_skip ?_
  show A _ _ _ _ _ _ _
  refine a_rseq ?_
  refine rg_put (d := 4) (v := .d (.fl (.int .i64 0))) rfl (og rfl (op_assign rfl rfl rfl)) ?_
  refine rg_done rfl ?_
  refine a_ret ?_
  show ∃ ds, ResL _ _ _ ds ∧ RV.of ds = _
  refine ⟨[.fl (.int .i64 0)], (.cons (.tmp rfl (.d _)) .nil), ?_⟩
  rfl
set_option maxHeartbeats 4000000 in
set_option maxRecDepth 100000 in
theorem txX (x : ByteArray) : Ctr Tryz.prog 87 [.fl (.string x), .fl (.string x)] (.d (.fl (.int .i64 0))) := by
  refine ctr (n := 11) (rs := #[.tmp 4]) (L := [(0, .d (.fl (.string x))), (1, .d (.fl (.string x)))]) Tryz.func87 rfl rfl rfl rfl rfl (fun w0 U0 => ?_)
  refine a_rseq ?_
  refine rg_put (d := 4) (v := .d (.fl (.int .i64 0))) rfl (og rfl (op_assign rfl rfl rfl)) ?_
  refine rg_done rfl ?_
  refine a_seq ?_
  refine a_rseq ?_
  refine rg_put (d := 5) (v := .d (.fl (.string x))) rfl (og rfl (op_move rfl rfl rfl)) ?_
  refine rg_put (d := 6) (v := .d (.fl (.string x))) rfl (og rfl (op_move rfl rfl rfl)) ?_
  refine rg_put (d := 7) (v := .d (.fl (.bool (sEq x x)))) rfl (og rfl (op_bin rfl rfl rfl (b_seq _ _ _) rfl)) ?_
  refine rg_done rfl ?_
  refine a_condK rfl (eq_self_s _) ?_
  refine a_rseq ?_
  refine rg_put (d := 4) (v := .d (.fl (.int .i64 0))) rfl (og rfl (op_assign rfl rfl rfl)) ?_
  refine rg_done rfl ?_
  refine a_ret ?_
  show ∃ ds, ResL _ _ _ ds ∧ RV.of ds = _
  refine ⟨[.fl (.int .i64 0)], (.cons (.tmp rfl (.d _)) .nil), ?_⟩
  rfl
set_option maxHeartbeats 4000000 in
set_option maxRecDepth 100000 in
theorem fiX (l : List Int) (hl : l.length ≤ 100) (h0 : ∀ q, q < l.length → ix l q = 0) : Ctr Tryz.prog 85 [.sl 1 (List.map (rI .i64) l)] (.d (.fl (.int .i64 0))) := by
  refine ctr (n := 19) (rs := #[.tmp 2]) (L := [(0, .d (.sl 1 (List.map (rI .i64) l)))]) Tryz.func85 rfl rfl rfl rfl rfl (fun w0 U0 => ?_)
  refine a_rseq ?_
  refine rg_put (d := 2) (v := .d (.fl (.int .i64 0))) rfl (og rfl (op_assign rfl rfl rfl)) ?_
  refine rg_done rfl ?_
  refine a_seq ?_
  refine a_rseq ?_
  refine rg_put (d := 3) (v := .d (.fl (.int .i64 0))) rfl (og rfl (op_assign rfl rfl rfl)) ?_
  refine rg_done rfl ?_
  refine a_block ?_
  refine a_loop (ι := Nat) (fun k => SS [(0, .d (.sl 1 (List.map (rI .i64) l))), (3, .d (.fl (.int .i64 (k : Int))))] []) (fun k => k ≤ l.length) (fun k => l.length - k) 0 (by omega) (imp_forget rfl ⟨rfl, (by first | rfl | exact ci (by omega) | exact ci (by simp) | exact cd (by simp) | simp), trivial⟩ trivial) (fun k hok => ?_)
  have hk := hok
  refine a_seq ?_
  refine a_rseq ?_
  refine rg_put (d := 4) (v := .d (.fl (.int .i64 (k : Int)))) rfl (og rfl (op_move rfl rfl rfl)) ?_
  refine rg_put (d := 5) (v := .d (.sl 1 (List.map (rI .i64) l))) rfl (og rfl (op_move rfl rfl rfl)) ?_
  refine rg_put (d := 6) (v := .d (.fl (.int .i64 (l.length : Int)))) rfl (og rfl (s_len rfl Tryz.underlying139 rfl rfl)) ?_
  refine rg_put (d := 7) (v := .d (.fl (.bool ((decide ((k : Int) < (l.length : Int))))))) rfl (og rfl (op_bin rfl rfl rfl (b_lss _ _ _ _) rfl)) ?_
  refine rg_done rfl ?_
  refine a_cond rfl (fun h1 => ?_) (fun h1 => ?_)
  · skip
    have h2 := t_dec h1
    refine a_skip ?_
    show A _ _ _ _ _ _ _
    refine a_seq ?_
    refine a_block ?_
    refine a_rseq ?_
    refine rg_put (d := 10) (v := .d (.sl 1 (List.map (rI .i64) l))) rfl (og rfl (op_move rfl rfl rfl)) ?_
    refine rg_put (d := 11) (v := .d (.fl (.int .i64 (k : Int)))) rfl (og rfl (op_move rfl rfl rfl)) ?_
    refine rg_put (d := 12) (v := .el ((rI .i64 (ix l k)))) rfl (og rfl (s_index rfl Tryz.underlying139 ti3 rfl rfl (by omega) (row_at (by omega)) rfl)) ?_
    refine rg_put (d := 13) (v := .d (.fl (.int .i64 (ix l k)))) rfl (og rfl (op_load_el rfl Tryz.underlying3 rfl rfl rfl rfl)) ?_
    refine rg_put (d := 14) (v := .d (.fl (.bool (((ix l k) != 0))))) rfl (og rfl (op_bin rfl rfl rfl (b_neq _ _ _ _) rfl)) ?_
    refine rg_done rfl ?_
    refine a_condF rfl (by rw [h0 k (by omega)]; rfl) ?_
    refine a_skip ?_
    show A _ _ _ _ _ _ _
    refine a_region ?_
    refine rg_put (d := 8) (v := .d (.fl (.int .i64 (k : Int)))) rfl (og rfl (op_move rfl rfl rfl)) ?_
    refine rg_put (d := 9) (v := .d (.fl (.int .i64 (((k : Int) + 1))))) rfl (og rfl (op_bin rfl rfl rfl (fun x y w => b_add64 _ _ _ x y w (by omega)) rfl)) ?_
    refine rg_put (d := 3) (v := .d (.fl (.int .i64 (((k : Int) + 1))))) rfl (og rfl (op_assign rfl rfl rfl)) ?_
    refine rg_done rfl ?_
    show ∃ i, _ ∧ _ ∧ Imp _ _ _ _ _
    refine ⟨k + 1, (by omega), by omega, imp_forget rfl ⟨rfl, (by first | rfl | exact ci (by omega) | exact ci (by simp) | exact cd (by simp) | simp), trivial⟩ trivial⟩
  · skip
    have h3 := f_dec h1
    refine a_exit ?_
    show A _ _ _ _ _ _ _
    refine a_rseq ?_
    refine rg_put (d := 2) (v := .d (.fl (.int .i64 0))) rfl (og rfl (op_assign rfl rfl rfl)) ?_
    refine rg_done rfl ?_
    refine a_ret ?_
    show ∃ ds, ResL _ _ _ ds ∧ RV.of ds = _
    refine ⟨[.fl (.int .i64 0)], (.cons (.tmp rfl (.d _)) .nil), ?_⟩
    rfl
set_option maxHeartbeats 4000000 in
set_option maxRecDepth 100000 in
theorem raX (x : Den) : Ctr Tryz.prog 88 [.ag (eDen x), .ag (eDen x)] (.d (.fl (.int .i64 0))) := by
  refine ctr (n := 42) (rs := #[.tmp 4]) (L := [(0, .d (.ag (eDen x))), (1, .d (.ag (eDen x)))]) Tryz.func88 rfl rfl rfl rfl rfl (fun w0 U0 => ?_)
  refine a_rseq ?_
  refine rg_nam (d := 2) (v := .pt 101 0) (m := 101) (nw := [(101, .bx 40 (eDen x))]) rfl (og rfl (of_eff (op_box 101 rfl rfl rfl rfl) rfl)) rfl ?_
  refine rg_nam (d := 3) (v := .pt 102 0) (m := 102) (nw := [(102, .bx 40 (eDen x))]) rfl (og rfl (of_eff (op_box 102 rfl rfl rfl rfl) rfl)) rfl ?_
  refine rg_put (d := 4) (v := .d (.fl (.int .i64 0))) rfl (og rfl (op_assign rfl rfl rfl)) ?_
  refine rg_done rfl ?_
  refine a_dseq (by kernel_rfl) ?_
  refine dr_put (d := 5) (v := .pt 101 0) rfl (og rfl (of_eff (s_field_pt rfl Tryz.underlying40 rfl ti9 rfl rfl rfl) rfl)) ?_
  refine dr_put (d := 6) (v := .d (.fl (.string x.dev))) rfl (og rfl (op_load_pt rfl Tryz.underlying9 rfl rfl rfl rfl rfl)) ?_
  refine dr_put (d := 7) (v := .pt 102 0) rfl (og rfl (of_eff (s_field_pt rfl Tryz.underlying40 rfl ti9 rfl rfl rfl) rfl)) ?_
  refine dr_put (d := 8) (v := .d (.fl (.string x.dev))) rfl (og rfl (op_load_pt rfl Tryz.underlying9 rfl rfl rfl rfl rfl)) ?_
  refine dr_put (d := 9) (v := .d (.fl (.int .i64 0))) rfl (og rfl (op_call rfl Tryz.func87 nm87 rfl (.cons rfl (.d _) (.cons rfl (.d _) .nil)) (txX x.dev) rfl)) ?_
  refine dr_put (d := 10) (v := .pt 101 1) rfl (og rfl (of_eff (s_field_pt rfl Tryz.underlying40 rfl ti3 rfl rfl rfl) rfl)) ?_
  refine dr_put (d := 11) (v := .d (.fl (.int .i64 x.seq))) rfl (og rfl (op_load_pt rfl Tryz.underlying3 rfl rfl rfl rfl rfl)) ?_
  refine dr_put (d := 12) (v := .pt 102 1) rfl (og rfl (of_eff (s_field_pt rfl Tryz.underlying40 rfl ti3 rfl rfl rfl) rfl)) ?_
  refine dr_put (d := 13) (v := .d (.fl (.int .i64 x.seq))) rfl (og rfl (op_load_pt rfl Tryz.underlying3 rfl rfl rfl rfl rfl)) ?_
  refine dr_put (d := 14) (v := .d (.fl (.int .i64 0))) rfl (og rfl (op_call rfl Tryz.func86 nm86 rfl (.cons rfl (.d _) (.cons rfl (.d _) .nil)) (nuX x.seq) rfl)) ?_
  refine dr_put (d := 15) (v := .pt 101 2) rfl (og rfl (of_eff (s_field_pt rfl Tryz.underlying40 rfl ti3 rfl rfl rfl) rfl)) ?_
  refine dr_put (d := 16) (v := .d (.fl (.int .i64 x.time))) rfl (og rfl (op_load_pt rfl Tryz.underlying3 rfl rfl rfl rfl rfl)) ?_
  refine dr_put (d := 17) (v := .pt 102 2) rfl (og rfl (of_eff (s_field_pt rfl Tryz.underlying40 rfl ti3 rfl rfl rfl) rfl)) ?_
  refine dr_put (d := 18) (v := .d (.fl (.int .i64 x.time))) rfl (og rfl (op_load_pt rfl Tryz.underlying3 rfl rfl rfl rfl rfl)) ?_
  refine dr_put (d := 19) (v := .d (.fl (.int .i64 0))) rfl (og rfl (op_call rfl Tryz.func86 nm86 rfl (.cons rfl (.d _) (.cons rfl (.d _) .nil)) (nuX x.time) rfl)) ?_
  refine dr_put (d := 20) (v := .pt 101 3) rfl (og rfl (of_eff (s_field_pt rfl Tryz.underlying40 rfl ti9 rfl rfl rfl) rfl)) ?_
  refine dr_put (d := 21) (v := .d (.fl (.string x.tag))) rfl (og rfl (op_load_pt rfl Tryz.underlying9 rfl rfl rfl rfl rfl)) ?_
  refine dr_put (d := 22) (v := .pt 102 3) rfl (og rfl (of_eff (s_field_pt rfl Tryz.underlying40 rfl ti9 rfl rfl rfl) rfl)) ?_
  refine dr_put (d := 23) (v := .d (.fl (.string x.tag))) rfl (og rfl (op_load_pt rfl Tryz.underlying9 rfl rfl rfl rfl rfl)) ?_
  refine dr_put (d := 24) (v := .d (.fl (.int .i64 0))) rfl (og rfl (op_call rfl Tryz.func87 nm87 rfl (.cons rfl (.d _) (.cons rfl (.d _) .nil)) (txX x.tag) rfl)) ?_
  refine dr_put (d := 25) (v := .pt 101 4) rfl (og rfl (of_eff (s_field_pt rfl Tryz.underlying40 rfl ti9 rfl rfl rfl) rfl)) ?_
  refine dr_put (d := 26) (v := .d (.fl (.string x.plate))) rfl (og rfl (op_load_pt rfl Tryz.underlying9 rfl rfl rfl rfl rfl)) ?_
  refine dr_put (d := 27) (v := .pt 102 4) rfl (og rfl (of_eff (s_field_pt rfl Tryz.underlying40 rfl ti9 rfl rfl rfl) rfl)) ?_
  refine dr_put (d := 28) (v := .d (.fl (.string x.plate))) rfl (og rfl (op_load_pt rfl Tryz.underlying9 rfl rfl rfl rfl rfl)) ?_
  refine dr_put (d := 29) (v := .d (.fl (.int .i64 0))) rfl (og rfl (op_call rfl Tryz.func87 nm87 rfl (.cons rfl (.d _) (.cons rfl (.d _) .nil)) (txX x.plate) rfl)) ?_
  refine dr_put (d := 30) (v := .pt 101 5) rfl (og rfl (of_eff (s_field_pt rfl Tryz.underlying40 rfl ti3 rfl rfl rfl) rfl)) ?_
  refine dr_put (d := 31) (v := .d (.fl (.int .i64 x.axl))) rfl (og rfl (op_load_pt rfl Tryz.underlying3 rfl rfl rfl rfl rfl)) ?_
  refine dr_put (d := 32) (v := .pt 102 5) rfl (og rfl (of_eff (s_field_pt rfl Tryz.underlying40 rfl ti3 rfl rfl rfl) rfl)) ?_
  refine dr_put (d := 33) (v := .d (.fl (.int .i64 x.axl))) rfl (og rfl (op_load_pt rfl Tryz.underlying3 rfl rfl rfl rfl rfl)) ?_
  refine dr_put (d := 34) (v := .d (.fl (.int .i64 0))) rfl (og rfl (op_call rfl Tryz.func86 nm86 rfl (.cons rfl (.d _) (.cons rfl (.d _) .nil)) (nuX x.axl) rfl)) ?_
  refine dr_put (d := 35) (v := .pt 101 6) rfl (og rfl (of_eff (s_field_pt rfl Tryz.underlying40 rfl ti3 rfl rfl rfl) rfl)) ?_
  refine dr_put (d := 36) (v := .d (.fl (.int .i64 x.score))) rfl (og rfl (op_load_pt rfl Tryz.underlying3 rfl rfl rfl rfl rfl)) ?_
  refine dr_put (d := 37) (v := .pt 102 6) rfl (og rfl (of_eff (s_field_pt rfl Tryz.underlying40 rfl ti3 rfl rfl rfl) rfl)) ?_
  refine dr_put (d := 38) (v := .d (.fl (.int .i64 x.score))) rfl (og rfl (op_load_pt rfl Tryz.underlying3 rfl rfl rfl rfl rfl)) ?_
  refine dr_put (d := 39) (v := .d (.fl (.int .i64 0))) rfl (og rfl (op_call rfl Tryz.func86 nm86 rfl (.cons rfl (.d _) (.cons rfl (.d _) .nil)) (nuX x.score) rfl)) ?_
  refine dr_put (d := 40) (v := .d (.sl 1 (List.map (rI .i64) [0, 0, 0, 0, 0, 0, 0]))) rfl (og rfl (of_eff (op_slices rfl Tryz.underlying139 ti3 rfl rfl rfl (by kernel_rfl) (xs := [.fl (.int .i64 0), .fl (.int .i64 0), .fl (.int .i64 0), .fl (.int .i64 0), .fl (.int .i64 0), .fl (.int .i64 0), .fl (.int .i64 0)]) rfl rfl (.cons rfl rfl (.d _) rfl rfl rfl (.cons rfl rfl (.d _) rfl rfl rfl (.cons rfl rfl (.d _) rfl rfl rfl (.cons rfl rfl (.d _) rfl rfl rfl (.cons rfl rfl (.d _) rfl rfl rfl (.cons rfl rfl (.d _) rfl rfl rfl (.cons rfl rfl (.d _) rfl rfl rfl .nil))))))) rfl) rfl)) ?_
  refine dr_put (d := 41) (v := .d (.fl (.int .i64 0))) rfl (og rfl (op_call rfl Tryz.func85 nm85 rfl (.cons rfl (.d _) .nil) (fiX [0, 0, 0, 0, 0, 0, 0] (by decide) (by decide)) rfl)) ?_
  refine dr_put (d := 4) (v := .d (.fl (.int .i64 0))) rfl (og rfl (op_assign rfl rfl rfl)) ?_
  refine dr_done rfl (sepB_of [0, 1, 0, 4, 15, 0, 32, 0, 128, 511, 0, 1024, 0, 4096, 16383, 0, 32768, 0, 131072, 524287, 0, 1048576, 0, 4194304, 16777215, 0, 33554432, 0, 134217728, 536870911, 0, 1073741824, 0, 4294967296, 17179869183, 34359738367, 68719476735, 137438953471] (by kernel_rfl)) (by kernel_rfl) ?_
  refine a_ret ?_
  show ∃ ds, ResL _ _ _ ds ∧ RV.of ds = _
  refine ⟨[.fl (.int .i64 0)], (.cons (.tmp rfl (.d _)) .nil), ?_⟩
  rfl
set_option maxHeartbeats 4000000 in
set_option maxRecDepth 100000 in
theorem coX (x : Sen) : Ctr Tryz.prog 50 [.ag (eSen x), .ag (eSen x)] (.d (.fl (.int .i64 0))) := by
  refine ctr (n := 32) (rs := #[.tmp 4]) (L := [(0, .d (.ag (eSen x))), (1, .d (.ag (eSen x)))]) Tryz.func50 rfl rfl rfl rfl rfl (fun w0 U0 => ?_)
  refine a_rseq ?_
  refine rg_nam (d := 2) (v := .pt 101 0) (m := 101) (nw := [(101, .bx 44 (eSen x))]) rfl (og rfl (of_eff (op_box 101 rfl rfl rfl rfl) rfl)) rfl ?_
  refine rg_nam (d := 3) (v := .pt 102 0) (m := 102) (nw := [(102, .bx 44 (eSen x))]) rfl (og rfl (of_eff (op_box 102 rfl rfl rfl rfl) rfl)) rfl ?_
  refine rg_put (d := 4) (v := .d (.fl (.int .i64 0))) rfl (og rfl (op_assign rfl rfl rfl)) ?_
  refine rg_done rfl ?_
  refine a_dseq (by kernel_rfl) ?_
  refine dr_put (d := 5) (v := .pt 101 7) rfl (og rfl (of_eff (s_field_pt rfl Tryz.underlying44 rfl ti3 rfl rfl rfl) rfl)) ?_
  refine dr_put (d := 6) (v := .d (.fl (.int .i64 x.time))) rfl (og rfl (op_load_pt rfl Tryz.underlying3 rfl rfl rfl rfl rfl)) ?_
  refine dr_put (d := 7) (v := .pt 102 7) rfl (og rfl (of_eff (s_field_pt rfl Tryz.underlying44 rfl ti3 rfl rfl rfl) rfl)) ?_
  refine dr_put (d := 8) (v := .d (.fl (.int .i64 x.time))) rfl (og rfl (op_load_pt rfl Tryz.underlying3 rfl rfl rfl rfl rfl)) ?_
  refine dr_put (d := 9) (v := .d (.fl (.int .i64 0))) rfl (og rfl (op_call rfl Tryz.func86 nm86 rfl (.cons rfl (.d _) (.cons rfl (.d _) .nil)) (nuX x.time) rfl)) ?_
  refine dr_put (d := 10) (v := .pt 101 8) rfl (og rfl (of_eff (s_field_pt rfl Tryz.underlying44 rfl ti9 rfl rfl rfl) rfl)) ?_
  refine dr_put (d := 11) (v := .d (.fl (.string x.point))) rfl (og rfl (op_load_pt rfl Tryz.underlying9 rfl rfl rfl rfl rfl)) ?_
  refine dr_put (d := 12) (v := .pt 102 8) rfl (og rfl (of_eff (s_field_pt rfl Tryz.underlying44 rfl ti9 rfl rfl rfl) rfl)) ?_
  refine dr_put (d := 13) (v := .d (.fl (.string x.point))) rfl (og rfl (op_load_pt rfl Tryz.underlying9 rfl rfl rfl rfl rfl)) ?_
  refine dr_put (d := 14) (v := .d (.fl (.int .i64 0))) rfl (og rfl (op_call rfl Tryz.func87 nm87 rfl (.cons rfl (.d _) (.cons rfl (.d _) .nil)) (txX x.point) rfl)) ?_
  refine dr_put (d := 15) (v := .pt 101 10) rfl (og rfl (of_eff (s_field_pt rfl Tryz.underlying44 rfl ti3 rfl rfl rfl) rfl)) ?_
  refine dr_put (d := 16) (v := .d (.fl (.int .i64 x.kind))) rfl (og rfl (op_load_pt rfl Tryz.underlying3 rfl rfl rfl rfl rfl)) ?_
  refine dr_put (d := 17) (v := .pt 102 10) rfl (og rfl (of_eff (s_field_pt rfl Tryz.underlying44 rfl ti3 rfl rfl rfl) rfl)) ?_
  refine dr_put (d := 18) (v := .d (.fl (.int .i64 x.kind))) rfl (og rfl (op_load_pt rfl Tryz.underlying3 rfl rfl rfl rfl rfl)) ?_
  refine dr_put (d := 19) (v := .d (.fl (.int .i64 0))) rfl (og rfl (op_call rfl Tryz.func86 nm86 rfl (.cons rfl (.d _) (.cons rfl (.d _) .nil)) (nuX x.kind) rfl)) ?_
  refine dr_put (d := 20) (v := .pt 101 9) rfl (og rfl (of_eff (s_field_pt rfl Tryz.underlying44 rfl ti3 rfl rfl rfl) rfl)) ?_
  refine dr_put (d := 21) (v := .d (.fl (.int .i64 x.lane))) rfl (og rfl (op_load_pt rfl Tryz.underlying3 rfl rfl rfl rfl rfl)) ?_
  refine dr_put (d := 22) (v := .pt 102 9) rfl (og rfl (of_eff (s_field_pt rfl Tryz.underlying44 rfl ti3 rfl rfl rfl) rfl)) ?_
  refine dr_put (d := 23) (v := .d (.fl (.int .i64 x.lane))) rfl (og rfl (op_load_pt rfl Tryz.underlying3 rfl rfl rfl rfl rfl)) ?_
  refine dr_put (d := 24) (v := .d (.fl (.int .i64 0))) rfl (og rfl (op_call rfl Tryz.func86 nm86 rfl (.cons rfl (.d _) (.cons rfl (.d _) .nil)) (nuX x.lane) rfl)) ?_
  refine dr_put (d := 25) (v := .pt 101 0) rfl (og rfl (of_eff (s_field_pt rfl Tryz.underlying44 rfl ti40 rfl rfl rfl) rfl)) ?_
  refine dr_put (d := 26) (v := .d (.ag (eDen x.d))) rfl (og rfl (of_eff (s_load_pts rfl Tryz.underlying40 rfl ti40 rfl rfl rfl rfl) rfl)) ?_
  refine dr_put (d := 27) (v := .pt 102 0) rfl (og rfl (of_eff (s_field_pt rfl Tryz.underlying44 rfl ti40 rfl rfl rfl) rfl)) ?_
  refine dr_put (d := 28) (v := .d (.ag (eDen x.d))) rfl (og rfl (of_eff (s_load_pts rfl Tryz.underlying40 rfl ti40 rfl rfl rfl rfl) rfl)) ?_
  refine dr_put (d := 29) (v := .d (.fl (.int .i64 0))) rfl (og rfl (op_call rfl Tryz.func88 nm88 rfl (.cons rfl (.d _) (.cons rfl (.d _) .nil)) (raX x.d) rfl)) ?_
  refine dr_put (d := 30) (v := .d (.sl 1 (List.map (rI .i64) [0, 0, 0, 0, 0]))) rfl (og rfl (of_eff (op_slices rfl Tryz.underlying139 ti3 rfl rfl rfl (by kernel_rfl) (xs := [.fl (.int .i64 0), .fl (.int .i64 0), .fl (.int .i64 0), .fl (.int .i64 0), .fl (.int .i64 0)]) rfl rfl (.cons rfl rfl (.d _) rfl rfl rfl (.cons rfl rfl (.d _) rfl rfl rfl (.cons rfl rfl (.d _) rfl rfl rfl (.cons rfl rfl (.d _) rfl rfl rfl (.cons rfl rfl (.d _) rfl rfl rfl .nil))))) rfl) rfl)) ?_
  refine dr_put (d := 31) (v := .d (.fl (.int .i64 0))) rfl (og rfl (op_call rfl Tryz.func85 nm85 rfl (.cons rfl (.d _) .nil) (fiX [0, 0, 0, 0, 0] (by decide) (by decide)) rfl)) ?_
  refine dr_put (d := 4) (v := .d (.fl (.int .i64 0))) rfl (og rfl (op_assign rfl rfl rfl)) ?_
  refine dr_done rfl (sepB_of [0, 1, 0, 4, 15, 0, 32, 0, 128, 511, 0, 1024, 0, 4096, 16383, 0, 32768, 0, 131072, 524287, 0, 1048576, 0, 4194304, 16777215, 33554431, 67108863, 134217727] (by kernel_rfl)) (by kernel_rfl) ?_
  refine a_ret ?_
  show ∃ ds, ResL _ _ _ ds ∧ RV.of ds = _
  refine ⟨[.fl (.int .i64 0)], (.cons (.tmp rfl (.d _)) .nil), ?_⟩
  rfl
set_option maxHeartbeats 4000000 in
set_option maxRecDepth 100000 in
theorem sameC (x : Sen) : Ctr Tryz.prog 18 [.ag (eSen x), .ag (eSen x)] (.d (.fl (.bool true))) := by
  refine ctr (n := 9) (rs := #[.tmp 4]) (L := [(0, .d (.ag (eSen x))), (1, .d (.ag (eSen x)))]) Tryz.func18 rfl rfl rfl rfl rfl (fun w0 U0 => ?_)
  refine a_rseq ?_
  refine rg_nam (d := 2) (v := .pt 101 0) (m := 101) (nw := [(101, .bx 44 (eSen x))]) rfl (og rfl (of_eff (op_box 101 rfl rfl rfl rfl) rfl)) rfl ?_
  refine rg_nam (d := 3) (v := .pt 102 0) (m := 102) (nw := [(102, .bx 44 (eSen x))]) rfl (og rfl (of_eff (op_box 102 rfl rfl rfl rfl) rfl)) rfl ?_
  refine rg_put (d := 4) (v := .d (.fl (.bool false))) rfl (og rfl (op_assign rfl rfl rfl)) ?_
  refine rg_done rfl ?_
  refine a_rseq ?_
  refine rg_put (d := 5) (v := .d (.ag (eSen x))) rfl (og rfl (of_eff (s_load_pts rfl Tryz.underlying44 rfl ti44 rfl rfl rfl rfl) rfl)) ?_
  refine rg_put (d := 6) (v := .d (.ag (eSen x))) rfl (og rfl (of_eff (s_load_pts rfl Tryz.underlying44 rfl ti44 rfl rfl rfl rfl) rfl)) ?_
  refine rg_put (d := 7) (v := .d (.fl (.int .i64 0))) rfl (og rfl (op_call rfl Tryz.func50 nm50 rfl (.cons rfl (.d _) (.cons rfl (.d _) .nil)) (coX x) rfl)) ?_
  refine rg_put (d := 8) (v := .d (.fl (.bool (0 == 0)))) rfl (og rfl (op_bin rfl rfl rfl (b_eql _ _ _ _) rfl)) ?_
  refine rg_put (d := 4) (v := .d (.fl (.bool (0 == 0)))) rfl (og rfl (op_assign rfl rfl rfl)) ?_
  refine rg_done rfl ?_
  refine a_ret ?_
  show ∃ ds, ResL _ _ _ ds ∧ RV.of ds = _
  refine ⟨[.fl (.bool (0 == 0))], (.cons (.tmp rfl (.d _)) .nil), ?_⟩
  rfl
set_option maxHeartbeats 4000000 in
set_option maxRecDepth 100000 in
theorem shC (d : Den) : Ctr Tryz.prog 14 [.ag (eDen d)] (.d (.fl (.bool (shB d)))) := by
  refine ctr (n := 19) (rs := #[.tmp 2]) (L := [(0, .d (.ag (eDen d)))]) Tryz.func14 rfl rfl rfl rfl rfl (fun w0 U0 => ?_)
  refine a_rseq ?_
  refine rg_nam (d := 1) (v := .pt 101 0) (m := 101) (nw := [(101, .bx 40 (eDen d))]) rfl (og rfl (of_eff (op_box 101 rfl rfl rfl rfl) rfl)) rfl ?_
  refine rg_put (d := 2) (v := .d (.fl (.bool false))) rfl (og rfl (op_assign rfl rfl rfl)) ?_
  refine rg_done rfl ?_
  refine a_rseq ?_
  refine rg_put (d := 3) (v := .pt 101 0) rfl (og rfl (of_eff (s_field_pt rfl Tryz.underlying40 rfl ti9 rfl rfl rfl) rfl)) ?_
  refine rg_put (d := 4) (v := .d (.fl (.string d.dev))) rfl (og rfl (op_load_pt rfl Tryz.underlying9 rfl rfl rfl rfl rfl)) ?_
  refine rg_put (d := 5) (v := .d (.fl (.int .i64 (d.dev.size : Int)))) rfl (og rfl (op_len_str rfl Tryz.underlying9 rfl rfl)) ?_
  refine rg_put (d := 6) (v := .d (.fl (.bool ((decide ((d.dev.size : Int) ≤ 40)))))) rfl (og rfl (op_bin rfl rfl rfl (b_leq _ _ _ _) rfl)) ?_
  refine rg_put (d := 7) (v := .d (.fl (.bool ((decide ((d.dev.size : Int) ≤ 40)))))) rfl (og rfl (op_move rfl rfl rfl)) ?_
  rcases fot ((decide ((d.dev.size : Int) ≤ 40))) with h1 | h1
  · skip
    have h2 := f_dec h1
    refine rg_put (d := 8) (v := .d (.fl undef)) rfl (on rfl rfl rfl h1) ?_
    refine rg_put (d := 9) (v := .d (.fl undef)) rfl (on rfl rfl rfl h1) ?_
    refine rg_put (d := 10) (v := .d (.fl undef)) rfl (on rfl rfl rfl h1) ?_
    refine rg_put (d := 11) (v := .d (.fl undef)) rfl (on rfl rfl rfl h1) ?_
    refine rg_put (d := 12) (v := .d (.fl (.bool false))) rfl (og rfl (op_pick rfl rfl (by rw [h1]; rfl) rfl)) ?_
    refine rg_put (d := 13) (v := .d (.fl (.bool false))) rfl (og rfl (op_move rfl rfl rfl)) ?_
    refine rg_put (d := 14) (v := .d (.fl undef)) rfl (on rfl rfl rfl rfl) ?_
    refine rg_put (d := 15) (v := .d (.fl undef)) rfl (on rfl rfl rfl rfl) ?_
    refine rg_put (d := 16) (v := .d (.fl undef)) rfl (on rfl rfl rfl rfl) ?_
    refine rg_put (d := 17) (v := .d (.fl undef)) rfl (on rfl rfl rfl rfl) ?_
    refine rg_put (d := 18) (v := .d (.fl (.bool false))) rfl (og rfl (op_pick rfl rfl rfl rfl)) ?_
    refine rg_put (d := 2) (v := .d (.fl (.bool false))) rfl (og rfl (op_assign rfl rfl rfl)) ?_
    refine rg_done rfl ?_
    refine a_ret ?_
    show ∃ ds, ResL _ _ _ ds ∧ RV.of ds = _
    refine ⟨[.fl (.bool false)], (.cons (.tmp rfl (.d _)) .nil), ?_⟩
    first
      | (have hu : shB d = false := by
          unfold shB; simp only [h1, Bool.true_or, Bool.false_or, Bool.or_true, Bool.or_false, Bool.not_true, Bool.not_false, cond_true, cond_false, Bool.true_and, Bool.false_and, Bool.and_true, Bool.and_false] <;> rfl
         rw [hu]; rfl)
      | (exfalso; omega)
  · skip
    have h3 := t_dec h1
    refine rg_put (d := 8) (v := .pt 101 3) rfl (oy rfl rfl rfl h1 (of_eff (s_field_pt rfl Tryz.underlying40 rfl ti9 rfl rfl rfl) rfl)) ?_
    refine rg_put (d := 9) (v := .d (.fl (.string d.tag))) rfl (oy rfl rfl rfl h1 (op_load_pt rfl Tryz.underlying9 rfl rfl rfl rfl rfl)) ?_
    refine rg_put (d := 10) (v := .d (.fl (.int .i64 (d.tag.size : Int)))) rfl (oy rfl rfl rfl h1 (op_len_str rfl Tryz.underlying9 rfl rfl)) ?_
    refine rg_put (d := 11) (v := .d (.fl (.bool ((decide ((d.tag.size : Int) ≤ 40)))))) rfl (oy rfl rfl rfl h1 (op_bin rfl rfl rfl (b_leq _ _ _ _) rfl)) ?_
    refine rg_put (d := 12) (v := .d (.fl (.bool ((decide ((d.tag.size : Int) ≤ 40)))))) rfl (og rfl (op_pick rfl rfl (by rw [h1]; rfl) rfl)) ?_
    refine rg_put (d := 13) (v := .d (.fl (.bool ((decide ((d.tag.size : Int) ≤ 40)))))) rfl (og rfl (op_move rfl rfl rfl)) ?_
    rcases fot ((decide ((d.tag.size : Int) ≤ 40))) with h4 | h4
    · skip
      have h5 := f_dec h4
      refine rg_put (d := 14) (v := .d (.fl undef)) rfl (on rfl rfl rfl h4) ?_
      refine rg_put (d := 15) (v := .d (.fl undef)) rfl (on rfl rfl rfl h4) ?_
      refine rg_put (d := 16) (v := .d (.fl undef)) rfl (on rfl rfl rfl h4) ?_
      refine rg_put (d := 17) (v := .d (.fl undef)) rfl (on rfl rfl rfl h4) ?_
      refine rg_put (d := 18) (v := .d (.fl (.bool false))) rfl (og rfl (op_pick rfl rfl (by rw [h4]; rfl) rfl)) ?_
      refine rg_put (d := 2) (v := .d (.fl (.bool false))) rfl (og rfl (op_assign rfl rfl rfl)) ?_
      refine rg_done rfl ?_
      refine a_ret ?_
      show ∃ ds, ResL _ _ _ ds ∧ RV.of ds = _
      refine ⟨[.fl (.bool false)], (.cons (.tmp rfl (.d _)) .nil), ?_⟩
      first
        | (have hu : shB d = false := by
            unfold shB; simp only [h1, h4, Bool.true_or, Bool.false_or, Bool.or_true, Bool.or_false, Bool.not_true, Bool.not_false, cond_true, cond_false, Bool.true_and, Bool.false_and, Bool.and_true, Bool.and_false] <;> rfl
           rw [hu]; rfl)
        | (exfalso; omega)
    · skip
      have h6 := t_dec h4
      refine rg_put (d := 14) (v := .pt 101 4) rfl (oy rfl rfl rfl h4 (of_eff (s_field_pt rfl Tryz.underlying40 rfl ti9 rfl rfl rfl) rfl)) ?_
      refine rg_put (d := 15) (v := .d (.fl (.string d.plate))) rfl (oy rfl rfl rfl h4 (op_load_pt rfl Tryz.underlying9 rfl rfl rfl rfl rfl)) ?_
      refine rg_put (d := 16) (v := .d (.fl (.int .i64 (d.plate.size : Int)))) rfl (oy rfl rfl rfl h4 (op_len_str rfl Tryz.underlying9 rfl rfl)) ?_
      refine rg_put (d := 17) (v := .d (.fl (.bool ((decide ((d.plate.size : Int) ≤ 40)))))) rfl (oy rfl rfl rfl h4 (op_bin rfl rfl rfl (b_leq _ _ _ _) rfl)) ?_
      refine rg_put (d := 18) (v := .d (.fl (.bool ((decide ((d.plate.size : Int) ≤ 40)))))) rfl (og rfl (op_pick rfl rfl (by rw [h4]; rfl) rfl)) ?_
      refine rg_put (d := 2) (v := .d (.fl (.bool ((decide ((d.plate.size : Int) ≤ 40)))))) rfl (og rfl (op_assign rfl rfl rfl)) ?_
      refine rg_done rfl ?_
      refine a_ret ?_
      show ∃ ds, ResL _ _ _ ds ∧ RV.of ds = _
      refine ⟨[.fl (.bool ((decide ((d.plate.size : Int) ≤ 40))))], (.cons (.tmp rfl (.d _)) .nil), ?_⟩
      first
        | (have hu : shB d = (decide ((d.plate.size : Int) ≤ 40)) := by
            unfold shB; simp only [h1, h4, Bool.true_or, Bool.false_or, Bool.or_true, Bool.or_false, Bool.not_true, Bool.not_false, cond_true, cond_false, Bool.true_and, Bool.false_and, Bool.and_true, Bool.and_false] <;> rfl
           rw [hu]; rfl)
        | (exfalso; omega)
set_option maxHeartbeats 4000000 in
set_option maxRecDepth 100000 in
theorem fwC (l : List Dc) (hl9 : l.length ≤ 9223372036854775807) : Ctr Tryz.prog 13 [.sl 6 (List.map eDc l)] (.d (.fl (.bool (fwB l)))) := by
  refine ctr (n := 47) (rs := #[.tmp 2]) (L := [(0, .d (.sl 6 (List.map eDc l)))]) Tryz.func13 rfl rfl rfl rfl rfl (fun w0 U0 => ?_)
  refine a_rseq ?_
  refine rg_put (d := 2) (v := .d (.fl (.bool false))) rfl (og rfl (op_assign rfl rfl rfl)) ?_
  refine rg_done rfl ?_
  refine a_seq ?_
  refine a_rseq ?_
  refine rg_put (d := 3) (v := .d (.fl (.int .i64 0))) rfl (og rfl (op_assign rfl rfl rfl)) ?_
  refine rg_done rfl ?_
  refine a_block ?_
  refine a_loop (ι := Nat) (fun k => SS [(0, .d (.sl 6 (List.map eDc l))), (3, .d (.fl (.int .i64 (k : Int))))] []) (fun k => k ≤ l.length ∧ ∀ q, q < k → (dvB (ix l q)) = false) (fun k => l.length - k) 0 (⟨by omega, fun q h => by omega⟩) (imp_forget rfl ⟨rfl, (by first | rfl | exact ci (by omega) | exact ci (by simp) | exact cd (by simp) | simp), trivial⟩ trivial) (fun k hok => ?_)
  obtain ⟨hkk, hq⟩ := hok
  refine a_seq ?_
  refine a_rseq ?_
  refine rg_put (d := 4) (v := .d (.fl (.int .i64 (k : Int)))) rfl (og rfl (op_move rfl rfl rfl)) ?_
  refine rg_put (d := 5) (v := .d (.sl 6 (List.map eDc l))) rfl (og rfl (op_move rfl rfl rfl)) ?_
  refine rg_put (d := 6) (v := .d (.fl (.int .i64 (l.length : Int)))) rfl (og rfl (s_len rfl Tryz.underlying38 rfl rfl)) ?_
  refine rg_put (d := 7) (v := .d (.fl (.bool ((decide ((k : Int) < (l.length : Int))))))) rfl (og rfl (op_bin rfl rfl rfl (b_lss _ _ _ _) rfl)) ?_
  refine rg_done rfl ?_
  refine a_cond rfl (fun h1 => ?_) (fun h1 => ?_)
  · skip
    have h2 := t_dec h1
    refine a_skip ?_
    show A _ _ _ _ _ _ _
    refine a_seq ?_
    refine a_block ?_
    refine a_rseq ?_
    refine rg_put (d := 10) (v := .d (.sl 6 (List.map eDc l))) rfl (og rfl (op_move rfl rfl rfl)) ?_
    refine rg_put (d := 11) (v := .d (.fl (.int .i64 (k : Int)))) rfl (og rfl (op_move rfl rfl rfl)) ?_
    refine rg_put (d := 12) (v := .el ((eDc (ix l k)))) rfl (og rfl (s_index rfl Tryz.underlying38 ti77 rfl rfl (by omega) (row_at (by omega)) rfl)) ?_
    refine rg_put (d := 13) (v := .el ((List.drop 0 ((eDc (ix l k)))))) rfl (og rfl (of_eff (s_field_el rfl Tryz.underlying77 rfl ti9 rfl rfl rfl) rfl)) ?_
    refine rg_put (d := 14) (v := .d (.fl (.string ((ix l k).name)))) rfl (og rfl (op_load_el rfl Tryz.underlying9 rfl rfl rfl rfl)) ?_
    refine rg_put (d := 15) (v := .d (.fl (.int .i64 ((((ix l k).name).size : Int))))) rfl (og rfl (op_len_str rfl Tryz.underlying9 rfl rfl)) ?_
    refine rg_put (d := 16) (v := .d (.fl (.bool ((decide (40 < (((ix l k).name).size : Int))))))) rfl (og rfl (op_bin rfl rfl rfl (b_gtr _ _ _ _) rfl)) ?_
    refine rg_put (d := 17) (v := .d (.fl (.bool ((decide (40 < (((ix l k).name).size : Int))))))) rfl (og rfl (op_move rfl rfl rfl)) ?_
    rcases fot ((decide (40 < (((ix l k).name).size : Int)))) with h3 | h3
    · skip
      have h4 := f_dec h3
      refine rg_put (d := 18) (v := .d (.sl 6 (List.map eDc l))) rfl (oy rfl rfl rfl h3 (op_move rfl rfl rfl)) ?_
      refine rg_put (d := 19) (v := .d (.fl (.int .i64 (k : Int)))) rfl (oy rfl rfl rfl h3 (op_move rfl rfl rfl)) ?_
      refine rg_put (d := 20) (v := .el ((eDc (ix l k)))) rfl (oy rfl rfl rfl h3 (s_index rfl Tryz.underlying38 ti77 rfl rfl (by omega) (row_at (by omega)) rfl)) ?_
      refine rg_put (d := 21) (v := .el ((List.drop 1 ((eDc (ix l k)))))) rfl (oy rfl rfl rfl h3 (of_eff (s_field_el rfl Tryz.underlying77 rfl ti9 rfl rfl rfl) rfl)) ?_
      refine rg_put (d := 22) (v := .d (.fl (.string ((ix l k).point)))) rfl (oy rfl rfl rfl h3 (op_load_el rfl Tryz.underlying9 rfl rfl rfl rfl)) ?_
      refine rg_put (d := 23) (v := .d (.fl (.int .i64 ((((ix l k).point).size : Int))))) rfl (oy rfl rfl rfl h3 (op_len_str rfl Tryz.underlying9 rfl rfl)) ?_
      refine rg_put (d := 24) (v := .d (.fl (.bool ((decide (40 < (((ix l k).point).size : Int))))))) rfl (oy rfl rfl rfl h3 (op_bin rfl rfl rfl (b_gtr _ _ _ _) rfl)) ?_
      refine rg_put (d := 25) (v := .d (.fl (.bool ((decide (40 < (((ix l k).point).size : Int))))))) rfl (og rfl (op_pick rfl rfl (by rw [h3]; rfl) rfl)) ?_
      refine rg_put (d := 26) (v := .d (.fl (.bool ((decide (40 < (((ix l k).point).size : Int))))))) rfl (og rfl (op_move rfl rfl rfl)) ?_
      rcases fot ((decide (40 < (((ix l k).point).size : Int)))) with h5 | h5
      · skip
        have h6 := f_dec h5
        refine rg_put (d := 27) (v := .d (.sl 6 (List.map eDc l))) rfl (oy rfl rfl rfl h5 (op_move rfl rfl rfl)) ?_
        refine rg_put (d := 28) (v := .d (.fl (.int .i64 (k : Int)))) rfl (oy rfl rfl rfl h5 (op_move rfl rfl rfl)) ?_
        refine rg_put (d := 29) (v := .el ((eDc (ix l k)))) rfl (oy rfl rfl rfl h5 (s_index rfl Tryz.underlying38 ti77 rfl rfl (by omega) (row_at (by omega)) rfl)) ?_
        refine rg_put (d := 30) (v := .el ((List.drop 4 ((eDc (ix l k)))))) rfl (oy rfl rfl rfl h5 (of_eff (s_field_el rfl Tryz.underlying77 rfl ti74 rfl rfl rfl) rfl)) ?_
        refine rg_put (d := 31) (v := .d (.sl 2 (List.map eOf ((ix l k).offs)))) rfl (oy rfl rfl rfl h5 (op_load_el rfl Tryz.underlying74 rfl rfl rfl rfl)) ?_
        refine rg_put (d := 32) (v := .d (.fl (.int .i64 ((((ix l k).offs).length : Int))))) rfl (oy rfl rfl rfl h5 (s_len rfl Tryz.underlying74 rfl rfl)) ?_
        refine rg_put (d := 33) (v := .d (.fl (.bool ((decide (20 < (((ix l k).offs).length : Int))))))) rfl (oy rfl rfl rfl h5 (op_bin rfl rfl rfl (b_gtr _ _ _ _) rfl)) ?_
        refine rg_put (d := 34) (v := .d (.fl (.bool ((decide (20 < (((ix l k).offs).length : Int))))))) rfl (og rfl (op_pick rfl rfl (by rw [h5]; rfl) rfl)) ?_
        refine rg_put (d := 35) (v := .d (.fl (.bool ((decide (20 < (((ix l k).offs).length : Int))))))) rfl (og rfl (op_move rfl rfl rfl)) ?_
        rcases fot ((decide (20 < (((ix l k).offs).length : Int)))) with h7 | h7
        · skip
          have h8 := f_dec h7
          refine rg_put (d := 36) (v := .d (.sl 6 (List.map eDc l))) rfl (oy rfl rfl rfl h7 (op_move rfl rfl rfl)) ?_
          refine rg_put (d := 37) (v := .d (.fl (.int .i64 (k : Int)))) rfl (oy rfl rfl rfl h7 (op_move rfl rfl rfl)) ?_
          refine rg_put (d := 38) (v := .el ((eDc (ix l k)))) rfl (oy rfl rfl rfl h7 (s_index rfl Tryz.underlying38 ti77 rfl rfl (by omega) (row_at (by omega)) rfl)) ?_
          refine rg_put (d := 39) (v := .el ((List.drop 5 ((eDc (ix l k)))))) rfl (oy rfl rfl rfl h7 (of_eff (s_field_el rfl Tryz.underlying77 rfl ti75 rfl rfl rfl) rfl)) ?_
          refine rg_put (d := 40) (v := .d (.sl 2 (List.map eIv ((ix l k).down)))) rfl (oy rfl rfl rfl h7 (op_load_el rfl Tryz.underlying75 rfl rfl rfl rfl)) ?_
          refine rg_put (d := 41) (v := .d (.fl (.int .i64 ((((ix l k).down).length : Int))))) rfl (oy rfl rfl rfl h7 (s_len rfl Tryz.underlying75 rfl rfl)) ?_
          refine rg_put (d := 42) (v := .d (.fl (.bool ((decide (20 < (((ix l k).down).length : Int))))))) rfl (oy rfl rfl rfl h7 (op_bin rfl rfl rfl (b_gtr _ _ _ _) rfl)) ?_
          refine rg_put (d := 43) (v := .d (.fl (.bool ((decide (20 < (((ix l k).down).length : Int))))))) rfl (og rfl (op_pick rfl rfl (by rw [h7]; rfl) rfl)) ?_
          refine rg_done rfl ?_
          refine a_cond rfl (fun h9 => ?_) (fun h9 => ?_)
          · skip
            have h10 := t_dec h9
            refine a_rseq ?_
            refine rg_put (d := 2) (v := .d (.fl (.bool false))) rfl (og rfl (op_assign rfl rfl rfl)) ?_
            refine rg_done rfl ?_
            refine a_ret ?_
            show ∃ ds, ResL _ _ _ ds ∧ RV.of ds = _
            refine ⟨[.fl (.bool false)], (.cons (.tmp rfl (.d _)) .nil), ?_⟩
            have hx : dvB (ix l k) = true := by unfold dvB; simp only [h1, h3, h5, h7, h9, Bool.true_or, Bool.false_or, Bool.or_true, Bool.or_false, Bool.not_true, Bool.not_false, cond_true, cond_false, Bool.true_and, Bool.false_and, Bool.and_true, Bool.and_false] <;> rfl
            rw [show fwB l = false from by unfold fwB; rw [all_no (p := fun d : Dc => !(dvB d)) (k := k) (by omega) (by rw [hx]; rfl)]; rfl]; rfl
          · skip
            have h11 := f_dec h9
            refine a_skip ?_
            show A _ _ _ _ _ _ _
            refine a_region ?_
            refine rg_put (d := 8) (v := .d (.fl (.int .i64 (k : Int)))) rfl (og rfl (op_move rfl rfl rfl)) ?_
            refine rg_put (d := 9) (v := .d (.fl (.int .i64 (((k : Int) + 1))))) rfl (og rfl (op_bin rfl rfl rfl (fun x y w => b_add64 _ _ _ x y w (by omega)) rfl)) ?_
            refine rg_put (d := 3) (v := .d (.fl (.int .i64 (((k : Int) + 1))))) rfl (og rfl (op_assign rfl rfl rfl)) ?_
            refine rg_done rfl ?_
            have hx : dvB (ix l k) = false := by unfold dvB; simp only [h1, h3, h5, h7, h9, Bool.true_or, Bool.false_or, Bool.or_true, Bool.or_false, Bool.not_true, Bool.not_false, cond_true, cond_false, Bool.true_and, Bool.false_and, Bool.and_true, Bool.and_false] <;> rfl
            show ∃ i, _ ∧ _ ∧ Imp _ _ _ _ _
            refine ⟨k + 1, ⟨by omega, fun q h => (Nat.lt_succ_iff_lt_or_eq.1 h).elim (hq q) (fun e => by rw [e]; exact hx)⟩, by omega, imp_forget rfl ⟨rfl, (by first | rfl | exact ci (by omega) | exact ci (by simp) | exact cd (by simp) | simp), trivial⟩ trivial⟩
        · skip
          have h12 := t_dec h7
          refine rg_put (d := 36) (v := .d (.fl undef)) rfl (on rfl rfl rfl h7) ?_
          refine rg_put (d := 37) (v := .d (.fl undef)) rfl (on rfl rfl rfl h7) ?_
          refine rg_put (d := 38) (v := .d (.fl undef)) rfl (on rfl rfl rfl h7) ?_
          refine rg_put (d := 39) (v := .d (.fl undef)) rfl (on rfl rfl rfl h7) ?_
          refine rg_put (d := 40) (v := .d (.fl undef)) rfl (on rfl rfl rfl h7) ?_
          refine rg_put (d := 41) (v := .d (.fl undef)) rfl (on rfl rfl rfl h7) ?_
          refine rg_put (d := 42) (v := .d (.fl undef)) rfl (on rfl rfl rfl h7) ?_
          refine rg_put (d := 43) (v := .d (.fl (.bool true))) rfl (og rfl (op_pick rfl rfl (by rw [h7]; rfl) rfl)) ?_
          refine rg_done rfl ?_
          refine a_condK rfl rfl ?_
          refine a_rseq ?_
          refine rg_put (d := 2) (v := .d (.fl (.bool false))) rfl (og rfl (op_assign rfl rfl rfl)) ?_
          refine rg_done rfl ?_
          refine a_ret ?_
          show ∃ ds, ResL _ _ _ ds ∧ RV.of ds = _
          refine ⟨[.fl (.bool false)], (.cons (.tmp rfl (.d _)) .nil), ?_⟩
          have hx : dvB (ix l k) = true := by unfold dvB; simp only [h1, h3, h5, h7, Bool.true_or, Bool.false_or, Bool.or_true, Bool.or_false, Bool.not_true, Bool.not_false, cond_true, cond_false, Bool.true_and, Bool.false_and, Bool.and_true, Bool.and_false] <;> rfl
          rw [show fwB l = false from by unfold fwB; rw [all_no (p := fun d : Dc => !(dvB d)) (k := k) (by omega) (by rw [hx]; rfl)]; rfl]; rfl
      · skip
        have h13 := t_dec h5
        refine rg_put (d := 27) (v := .d (.fl undef)) rfl (on rfl rfl rfl h5) ?_
        refine rg_put (d := 28) (v := .d (.fl undef)) rfl (on rfl rfl rfl h5) ?_
        refine rg_put (d := 29) (v := .d (.fl undef)) rfl (on rfl rfl rfl h5) ?_
        refine rg_put (d := 30) (v := .d (.fl undef)) rfl (on rfl rfl rfl h5) ?_
        refine rg_put (d := 31) (v := .d (.fl undef)) rfl (on rfl rfl rfl h5) ?_
        refine rg_put (d := 32) (v := .d (.fl undef)) rfl (on rfl rfl rfl h5) ?_
        refine rg_put (d := 33) (v := .d (.fl undef)) rfl (on rfl rfl rfl h5) ?_
        refine rg_put (d := 34) (v := .d (.fl (.bool true))) rfl (og rfl (op_pick rfl rfl (by rw [h5]; rfl) rfl)) ?_
        refine rg_put (d := 35) (v := .d (.fl (.bool true))) rfl (og rfl (op_move rfl rfl rfl)) ?_
        refine rg_put (d := 36) (v := .d (.fl undef)) rfl (on rfl rfl rfl rfl) ?_
        refine rg_put (d := 37) (v := .d (.fl undef)) rfl (on rfl rfl rfl rfl) ?_
        refine rg_put (d := 38) (v := .d (.fl undef)) rfl (on rfl rfl rfl rfl) ?_
        refine rg_put (d := 39) (v := .d (.fl undef)) rfl (on rfl rfl rfl rfl) ?_
        refine rg_put (d := 40) (v := .d (.fl undef)) rfl (on rfl rfl rfl rfl) ?_
        refine rg_put (d := 41) (v := .d (.fl undef)) rfl (on rfl rfl rfl rfl) ?_
        refine rg_put (d := 42) (v := .d (.fl undef)) rfl (on rfl rfl rfl rfl) ?_
        refine rg_put (d := 43) (v := .d (.fl (.bool true))) rfl (og rfl (op_pick rfl rfl rfl rfl)) ?_
        refine rg_done rfl ?_
        refine a_condK rfl rfl ?_
        refine a_rseq ?_
        refine rg_put (d := 2) (v := .d (.fl (.bool false))) rfl (og rfl (op_assign rfl rfl rfl)) ?_
        refine rg_done rfl ?_
        refine a_ret ?_
        show ∃ ds, ResL _ _ _ ds ∧ RV.of ds = _
        refine ⟨[.fl (.bool false)], (.cons (.tmp rfl (.d _)) .nil), ?_⟩
        have hx : dvB (ix l k) = true := by unfold dvB; simp only [h1, h3, h5, Bool.true_or, Bool.false_or, Bool.or_true, Bool.or_false, Bool.not_true, Bool.not_false, cond_true, cond_false, Bool.true_and, Bool.false_and, Bool.and_true, Bool.and_false] <;> rfl
        rw [show fwB l = false from by unfold fwB; rw [all_no (p := fun d : Dc => !(dvB d)) (k := k) (by omega) (by rw [hx]; rfl)]; rfl]; rfl
    · skip
      have h14 := t_dec h3
      refine rg_put (d := 18) (v := .d (.fl undef)) rfl (on rfl rfl rfl h3) ?_
      refine rg_put (d := 19) (v := .d (.fl undef)) rfl (on rfl rfl rfl h3) ?_
      refine rg_put (d := 20) (v := .d (.fl undef)) rfl (on rfl rfl rfl h3) ?_
      refine rg_put (d := 21) (v := .d (.fl undef)) rfl (on rfl rfl rfl h3) ?_
      refine rg_put (d := 22) (v := .d (.fl undef)) rfl (on rfl rfl rfl h3) ?_
      refine rg_put (d := 23) (v := .d (.fl undef)) rfl (on rfl rfl rfl h3) ?_
      refine rg_put (d := 24) (v := .d (.fl undef)) rfl (on rfl rfl rfl h3) ?_
      refine rg_put (d := 25) (v := .d (.fl (.bool true))) rfl (og rfl (op_pick rfl rfl (by rw [h3]; rfl) rfl)) ?_
      refine rg_put (d := 26) (v := .d (.fl (.bool true))) rfl (og rfl (op_move rfl rfl rfl)) ?_
      refine rg_put (d := 27) (v := .d (.fl undef)) rfl (on rfl rfl rfl rfl) ?_
      refine rg_put (d := 28) (v := .d (.fl undef)) rfl (on rfl rfl rfl rfl) ?_
      refine rg_put (d := 29) (v := .d (.fl undef)) rfl (on rfl rfl rfl rfl) ?_
      refine rg_put (d := 30) (v := .d (.fl undef)) rfl (on rfl rfl rfl rfl) ?_
      refine rg_put (d := 31) (v := .d (.fl undef)) rfl (on rfl rfl rfl rfl) ?_
      refine rg_put (d := 32) (v := .d (.fl undef)) rfl (on rfl rfl rfl rfl) ?_
      refine rg_put (d := 33) (v := .d (.fl undef)) rfl (on rfl rfl rfl rfl) ?_
      refine rg_put (d := 34) (v := .d (.fl (.bool true))) rfl (og rfl (op_pick rfl rfl rfl rfl)) ?_
      refine rg_put (d := 35) (v := .d (.fl (.bool true))) rfl (og rfl (op_move rfl rfl rfl)) ?_
      refine rg_put (d := 36) (v := .d (.fl undef)) rfl (on rfl rfl rfl rfl) ?_
      refine rg_put (d := 37) (v := .d (.fl undef)) rfl (on rfl rfl rfl rfl) ?_
      refine rg_put (d := 38) (v := .d (.fl undef)) rfl (on rfl rfl rfl rfl) ?_
      refine rg_put (d := 39) (v := .d (.fl undef)) rfl (on rfl rfl rfl rfl) ?_
      refine rg_put (d := 40) (v := .d (.fl undef)) rfl (on rfl rfl rfl rfl) ?_
      refine rg_put (d := 41) (v := .d (.fl undef)) rfl (on rfl rfl rfl rfl) ?_
      refine rg_put (d := 42) (v := .d (.fl undef)) rfl (on rfl rfl rfl rfl) ?_
      refine rg_put (d := 43) (v := .d (.fl (.bool true))) rfl (og rfl (op_pick rfl rfl rfl rfl)) ?_
      refine rg_done rfl ?_
      refine a_condK rfl rfl ?_
      refine a_rseq ?_
      refine rg_put (d := 2) (v := .d (.fl (.bool false))) rfl (og rfl (op_assign rfl rfl rfl)) ?_
      refine rg_done rfl ?_
      refine a_ret ?_
      show ∃ ds, ResL _ _ _ ds ∧ RV.of ds = _
      refine ⟨[.fl (.bool false)], (.cons (.tmp rfl (.d _)) .nil), ?_⟩
      have hx : dvB (ix l k) = true := by unfold dvB; simp only [h1, h3, Bool.true_or, Bool.false_or, Bool.or_true, Bool.or_false, Bool.not_true, Bool.not_false, cond_true, cond_false, Bool.true_and, Bool.false_and, Bool.and_true, Bool.and_false] <;> rfl
      rw [show fwB l = false from by unfold fwB; rw [all_no (p := fun d : Dc => !(dvB d)) (k := k) (by omega) (by rw [hx]; rfl)]; rfl]; rfl
  · skip
    have h15 := f_dec h1
    refine a_exit ?_
    show A _ _ _ _ _ _ _
    refine a_rseq ?_
    refine rg_put (d := 44) (v := .d (.sl 6 (List.map eDc l))) rfl (og rfl (op_move rfl rfl rfl)) ?_
    refine rg_put (d := 45) (v := .d (.fl (.int .i64 (l.length : Int)))) rfl (og rfl (s_len rfl Tryz.underlying38 rfl rfl)) ?_
    refine rg_put (d := 46) (v := .d (.fl (.bool ((decide ((l.length : Int) ≤ 20)))))) rfl (og rfl (op_bin rfl rfl rfl (b_leq _ _ _ _) rfl)) ?_
    refine rg_put (d := 2) (v := .d (.fl (.bool ((decide ((l.length : Int) ≤ 20)))))) rfl (og rfl (op_assign rfl rfl rfl)) ?_
    refine rg_done rfl ?_
    refine a_ret ?_
    show ∃ ds, ResL _ _ _ ds ∧ RV.of ds = _
    refine ⟨[.fl (.bool ((decide ((l.length : Int) ≤ 20))))], (.cons (.tmp rfl (.d _)) .nil), ?_⟩
    rw [show fwB l = decide ((l.length : Int) ≤ 20) from by unfold fwB; rw [all_yes (p := fun d : Dc => !(dvB d)) (fun q h => by rw [hq q (by omega)]; rfl)]; rfl]; rfl
set_option maxHeartbeats 4000000 in
set_option maxRecDepth 100000 in
theorem law4 (l : List Dc) (d : Den) (hl9 : l.length ≤ 9223372036854775807) (hr9 : ∀ d ∈ l, ∀ o ∈ d.offs, -9223372036854775808 ≤ o.dl ∧ o.dl ≤ 9223372036854775807) : CtrK Tryz.prog KK 4 [.sl 6 (List.map eDc l), .ag (eDen d)] (.d (.fl (.bool true))) := by
  refine ctrK (n := 48) (rs := #[.tmp 4]) (L := [(0, .d (.sl 6 (List.map eDc l))), (1, .d (.ag (eDen d)))]) Tryz.func4 rfl rfl rfl rfl rfl (fun w0 U0 hG => ?_)
  refine a_rseq ?_
  refine rg_nam (d := 3) (v := .pt 101 0) (m := 101) (nw := [(101, .bx 40 (eDen d))]) rfl (og rfl (of_eff (op_box 101 rfl rfl rfl rfl) rfl)) rfl ?_
  refine rg_put (d := 4) (v := .d (.fl (.bool false))) rfl (og rfl (op_assign rfl rfl rfl)) ?_
  refine rg_done rfl ?_
  refine a_seq ?_
  refine a_rseq ?_
  refine rg_put (d := 9) (v := .d (.sl 6 (List.map eDc l))) rfl (og rfl (op_move rfl rfl rfl)) ?_
  refine rg_put (d := 10) (v := .d (.fl (.bool (fwB l)))) rfl (og rfl (op_call rfl Tryz.func13 nm13 rfl (.cons rfl (.d _) .nil) (fwC l hl9) rfl)) ?_
  refine rg_put (d := 11) (v := .d (.fl (.bool ((!(fwB l)))))) rfl (og rfl (op_un rfl rfl (u_not _) rfl)) ?_
  refine rg_put (d := 12) (v := .d (.fl (.bool ((!(fwB l)))))) rfl (og rfl (op_move rfl rfl rfl)) ?_
  rcases fot ((!(fwB l))) with h1 | h1
  · skip
    have h2 := f_not h1
    refine rg_put (d := 13) (v := .d (.ag (eDen d))) rfl (oy rfl rfl rfl h1 (of_eff (s_load_pts rfl Tryz.underlying40 rfl ti40 rfl rfl rfl rfl) rfl)) ?_
    refine rg_put (d := 14) (v := .d (.fl (.bool (shB d)))) rfl (oy rfl rfl rfl h1 (op_call rfl Tryz.func14 nm14 rfl (.cons rfl (.d _) .nil) (shC d) rfl)) ?_
    refine rg_put (d := 15) (v := .d (.fl (.bool ((!(shB d)))))) rfl (oy rfl rfl rfl h1 (op_un rfl rfl (u_not _) rfl)) ?_
    refine rg_put (d := 16) (v := .d (.fl (.bool ((!(shB d)))))) rfl (og rfl (op_pick rfl rfl (by rw [h1]; rfl) rfl)) ?_
    refine rg_done rfl ?_
    refine a_cond rfl (fun h3 => ?_) (fun h3 => ?_)
    · skip
      have h4 := t_not h3
      refine a_rseq ?_
      refine rg_put (d := 17) (v := .d (.fl (.bool true))) rfl (og rfl (op_callK kkst hG rfl Tryz.func15 nm15 rfl .nil (ctrK_of alive15) rfl)) ?_
      refine rg_put (d := 4) (v := .d (.fl (.bool true))) rfl (og rfl (op_assign rfl rfl rfl)) ?_
      refine rg_done rfl ?_
      refine a_ret ?_
      show ∃ ds, ResL _ _ _ ds ∧ RV.of ds = _
      refine ⟨[.fl (.bool true)], (.cons (.tmp rfl (.d _)) .nil), ?_⟩
      rfl
    · skip
      have h5 := f_not h3
      refine a_skip ?_
      show A _ _ _ _ _ _ _
      refine a_rseq ?_
      have hl := fwB_t h2 hr9
      have hp : d.plate.size ≤ 100000 := by have h := h5; unfold shB at h; simp only [Bool.and_eq_true, decide_eq_true_eq] at h; omega
      refine rg_put (d := 19) (v := .d (.sl 6 (List.map eDc l))) rfl (og rfl (op_move rfl rfl rfl)) ?_
      refine rg_put (d := 20) (v := .d (.ag (eDen d))) rfl (og rfl (of_eff (s_load_pts rfl Tryz.underlying40 rfl ti40 rfl rfl rfl rfl) rfl)) ?_
      refine rg_put (d := 21) (v := .tu [.ag (eSen ((crS (fnC l d)))), .fl (.int .i64 ((rsn (fnC l d)).1))]) rfl (og rfl (op_callK kkst hG rfl Tryz.func16 nm16 rfl (.cons rfl (.d _) (.cons rfl (.d _) .nil)) (corP l d hl hp) rfl)) ?_
      refine rg_put (d := 18) (v := .tu [.ag (eSen ((crS (fnC l d)))), .fl (.int .i64 ((rsn (fnC l d)).1))]) rfl (og rfl (op_move rfl rfl rfl)) ?_
      refine rg_put (d := 22) (v := .d (.ag (eSen ((crS (fnC l d)))))) rfl (og rfl (op_extract rfl rfl rfl rfl)) ?_
      refine rg_put (d := 23) (v := .d (.fl (.int .i64 ((rsn (fnC l d)).1)))) rfl (og rfl (op_extract rfl rfl rfl rfl)) ?_
      refine rg_nam (d := 5) (v := .pt 102 0) (m := 102) (nw := [(102, .bx 44 ([.fl (.string (⟨#[]⟩)), .fl (.int .i64 0), .fl (.int .i64 0), .fl (.string (⟨#[]⟩)), .fl (.string (⟨#[]⟩)), .fl (.int .i64 0), .fl (.int .i64 0), .fl (.int .i64 0), .fl (.string (⟨#[]⟩)), .fl (.int .i64 0), .fl (.int .i64 0)]))]) rfl (og rfl (of_eff (s_alloc 102 rfl ti44 (by kernel_rfl) rfl) rfl)) rfl ?_
      refine rg_sto (nw := [(102, .bx 44 ((eSen ((crS (fnC l d))))))]) rfl (og rfl (of_eff (s_store rfl rfl ti44 rfl rfl rfl rfl rfl rfl) rfl)) ?_
      refine rg_put (d := 6) (v := .d (.fl (.int .i64 ((rsn (fnC l d)).1)))) rfl (og rfl (op_assign rfl rfl rfl)) ?_
      refine rg_done rfl ?_
      refine a_rseq ?_
      refine rg_put (d := 25) (v := .d (.sl 6 (List.map eDc l))) rfl (og rfl (op_move rfl rfl rfl)) ?_
      refine rg_put (d := 26) (v := .d (.ag (eDen d))) rfl (og rfl (of_eff (s_load_pts rfl Tryz.underlying40 rfl ti40 rfl rfl rfl rfl) rfl)) ?_
      refine rg_put (d := 27) (v := .tu [.ag (eSen ((crS (fnC l d)))), .fl (.int .i64 ((rsn (fnC l d)).1))]) rfl (og rfl (op_call rfl Tryz.func17 nm17 rfl (.cons rfl (.d _) (.cons rfl (.d _) .nil)) (corR l d hl hp) rfl)) ?_
      refine rg_put (d := 24) (v := .tu [.ag (eSen ((crS (fnC l d)))), .fl (.int .i64 ((rsn (fnC l d)).1))]) rfl (og rfl (op_move rfl rfl rfl)) ?_
      refine rg_put (d := 28) (v := .d (.ag (eSen ((crS (fnC l d)))))) rfl (og rfl (op_extract rfl rfl rfl rfl)) ?_
      refine rg_put (d := 29) (v := .d (.fl (.int .i64 ((rsn (fnC l d)).1)))) rfl (og rfl (op_extract rfl rfl rfl rfl)) ?_
      refine rg_nam (d := 7) (v := .pt 103 0) (m := 103) (nw := [(103, .bx 44 ([.fl (.string (⟨#[]⟩)), .fl (.int .i64 0), .fl (.int .i64 0), .fl (.string (⟨#[]⟩)), .fl (.string (⟨#[]⟩)), .fl (.int .i64 0), .fl (.int .i64 0), .fl (.int .i64 0), .fl (.string (⟨#[]⟩)), .fl (.int .i64 0), .fl (.int .i64 0)]))]) rfl (og rfl (of_eff (s_alloc 103 rfl ti44 (by kernel_rfl) rfl) rfl)) rfl ?_
      refine rg_sto (nw := [(103, .bx 44 ((eSen ((crS (fnC l d))))))]) rfl (og rfl (of_eff (s_store rfl rfl ti44 rfl rfl rfl rfl rfl rfl) rfl)) ?_
      refine rg_put (d := 8) (v := .d (.fl (.int .i64 ((rsn (fnC l d)).1)))) rfl (og rfl (op_assign rfl rfl rfl)) ?_
      refine rg_done rfl ?_
      refine a_rseq ?_
      refine rg_put (d := 30) (v := .d (.fl (.int .i64 ((rsn (fnC l d)).1)))) rfl (og rfl (op_move rfl rfl rfl)) ?_
      refine rg_put (d := 31) (v := .d (.fl (.int .i64 ((rsn (fnC l d)).1)))) rfl (og rfl (op_move rfl rfl rfl)) ?_
      refine rg_put (d := 32) (v := .d (.fl (.bool (((rsn (fnC l d)).1 == (rsn (fnC l d)).1))))) rfl (og rfl (op_bin rfl rfl rfl (b_eql _ _ _ _) rfl)) ?_
      refine rg_put (d := 33) (v := .d (.fl (.bool (((rsn (fnC l d)).1 == (rsn (fnC l d)).1))))) rfl (og rfl (op_move rfl rfl rfl)) ?_
      refine rg_put (d := 34) (v := .d (.ag (eSen (((crS (fnC l d))))))) rfl (oy rfl rfl rfl (beq_self_eq_true _) (of_eff (s_load_pts rfl Tryz.underlying44 rfl ti44 rfl rfl rfl rfl) rfl)) ?_
      refine rg_put (d := 35) (v := .d (.ag (eSen (((crS (fnC l d))))))) rfl (oy rfl rfl rfl (beq_self_eq_true _) (of_eff (s_load_pts rfl Tryz.underlying44 rfl ti44 rfl rfl rfl rfl) rfl)) ?_
      refine rg_put (d := 36) (v := .d (.fl (.bool true))) rfl (oy rfl rfl rfl (beq_self_eq_true _) (op_call rfl Tryz.func18 nm18 rfl (.cons rfl (.d _) (.cons rfl (.d _) .nil)) (sameC (((crS (fnC l d))))) rfl)) ?_
      refine rg_put (d := 37) (v := .d (.fl (.bool true))) rfl (og rfl (op_pick rfl rfl (by rw [(beq_self_eq_true _)]; rfl) rfl)) ?_
      refine rg_put (d := 38) (v := .d (.fl (.bool true))) rfl (og rfl (op_move rfl rfl rfl)) ?_
      refine rg_put (d := 39) (v := .d (.sl 6 (List.map eDc l))) rfl (oy rfl rfl rfl rfl (op_move rfl rfl rfl)) ?_
      refine rg_put (d := 40) (v := .d (.ag (eDen d))) rfl (oy rfl rfl rfl rfl (of_eff (s_load_pts rfl Tryz.underlying40 rfl ti40 rfl rfl rfl rfl) rfl)) ?_
      refine rg_put (d := 41) (v := .d (.fl (.int .i64 ((rsn (fnC l d)).1)))) rfl (oy rfl rfl rfl rfl (op_callK kkst hG rfl Tryz.func19 nm19 rfl (.cons rfl (.d _) (.cons rfl (.d _) .nil)) (chkP l d hl hp) rfl)) ?_
      refine rg_put (d := 42) (v := .d (.fl (.int .i64 ((rsn (fnC l d)).1)))) rfl (oy rfl rfl rfl rfl (op_move rfl rfl rfl)) ?_
      refine rg_put (d := 43) (v := .d (.fl (.bool (((rsn (fnC l d)).1 == (rsn (fnC l d)).1))))) rfl (oy rfl rfl rfl rfl (op_bin rfl rfl rfl (b_eql _ _ _ _) rfl)) ?_
      refine rg_put (d := 44) (v := .d (.fl (.bool (((rsn (fnC l d)).1 == (rsn (fnC l d)).1))))) rfl (og rfl (op_pick rfl rfl rfl rfl)) ?_
      refine rg_put (d := 45) (v := .d (.fl (.bool (((rsn (fnC l d)).1 == (rsn (fnC l d)).1))))) rfl (og rfl (op_move rfl rfl rfl)) ?_
      refine rg_put (d := 46) (v := .d (.fl (.bool true))) rfl (oy rfl rfl rfl (beq_self_eq_true _) (op_callK kkst hG rfl Tryz.func15 nm15 rfl .nil (ctrK_of alive15) rfl)) ?_
      refine rg_put (d := 47) (v := .d (.fl (.bool true))) rfl (og rfl (op_pick rfl rfl (by rw [(beq_self_eq_true _)]; rfl) rfl)) ?_
      refine rg_put (d := 4) (v := .d (.fl (.bool true))) rfl (og rfl (op_assign rfl rfl rfl)) ?_
      refine rg_done rfl ?_
      refine a_ret ?_
      show ∃ ds, ResL _ _ _ ds ∧ RV.of ds = _
      refine ⟨[.fl (.bool true)], (.cons (.tmp rfl (.d _)) .nil), ?_⟩
      rfl
  · skip
    have h6 := t_not h1
    refine rg_put (d := 13) (v := .d (.fl undef)) rfl (on rfl rfl rfl h1) ?_
    refine rg_put (d := 14) (v := .d (.fl undef)) rfl (on rfl rfl rfl h1) ?_
    refine rg_put (d := 15) (v := .d (.fl undef)) rfl (on rfl rfl rfl h1) ?_
    refine rg_put (d := 16) (v := .d (.fl (.bool true))) rfl (og rfl (op_pick rfl rfl (by rw [h1]; rfl) rfl)) ?_
    refine rg_done rfl ?_
    refine a_condK rfl rfl ?_
    refine a_rseq ?_
    refine rg_put (d := 17) (v := .d (.fl (.bool true))) rfl (og rfl (op_callK kkst hG rfl Tryz.func15 nm15 rfl .nil (ctrK_of alive15) rfl)) ?_
    refine rg_put (d := 4) (v := .d (.fl (.bool true))) rfl (og rfl (op_assign rfl rfl rfl)) ?_
    refine rg_done rfl ?_
    refine a_ret ?_
    show ∃ ds, ResL _ _ _ ds ∧ RV.of ds = _
    refine ⟨[.fl (.bool true)], (.cons (.tmp rfl (.d _)) .nil), ?_⟩
    rfl
end Go.Proofs.YtgelodnkfajgjaaGreatDoor.Wk
