/- The sort of passages. No condition. -/
import Derived.Test.YtakmjlpciicaiaaGreatDoorLaid
import Derived.Shelf.SlSortCmp.NoneTotal
import Derived.Test.YtakmjlpciicaiaaGreatDoorB1
set_option linter.unusedSimpArgs false
set_option linter.unusedVariables false
namespace Go.Proofs.YtakmjlpciicaiaaGreatDoor.Wk
open Go Go.RowKit Go.Sort Go.Shelf Go.Lib Go.Proofs.YtakmjlpciicaiaaGreatDoor.Av
theorem so_0 {a b : Src} (h : so a b = 0) : a = b := by
  have h1 := fz_zero.1 h (sc a.dev b.dev) (by simp)
  have h2 := fz_zero.1 h (ic a.seq b.seq) (by simp)
  have e1 : a.dev = b.dev := by rcases sc_cases a.dev b.dev with q | q | q <;> first | exact q.2 | omega
  have e2 : a.seq = b.seq := by have := ic_val a.seq b.seq; omega
  cases a; cases b; simp at e1 e2; subst e1 e2; rfl
theorem cl_0 : ∀ {l m : List Src}, cl l m = 0 → l = m
  | [], [], _ => rfl
  | [], _ :: _, h => by simp [cl] at h
  | _ :: _, [], h => by simp [cl] at h
  | a :: l, b :: m, h => by
    simp only [cl] at h
    cases h1 : (so a b != 0) with
    | true => rw [h1, cond_true] at h; rw [h] at h1; cases h1
    | false =>
      rw [h1, cond_false] at h
      have e1 : a = b := so_0 (by simpa using h1)
      have e2 := cl_0 h
      rw [e1, e2]
theorem cp_0 {a b : Psg} (h : cp a b = 0) : a = b := by
  have hz := fz_zero.1 h
  have T : ∀ {s u : ByteArray}, sc s u = 0 → s = u := fun {s u} h => by rcases sc_cases s u with q | q | q <;> first | exact q.2 | omega
  have I : ∀ {x y : Int}, ic x y = 0 → x = y := fun {x y} h => by have := ic_val x y; omega
  have e1 := I (hz (ic a.time b.time) (by simp [cpl]))
  have e2 := T (hz (sc a.point b.point) (by simp [cpl]))
  have e3 := T (hz (sc a.id b.id) (by simp [cpl]))
  have e4 := T (hz (sc a.tag b.tag) (by simp [cpl]))
  have e5 := T (hz (sc a.plate b.plate) (by simp [cpl]))
  have e6 := I (hz (ic a.cls b.cls) (by simp [cpl]))
  have e7 := I (hz (ic a.score b.score) (by simp [cpl]))
  have e8 := cl_0 (hz (cl a.src b.src) (by simp [cpl]))
  cases a; cases b; simp at e1 e2 e3 e4 e5 e6 e7 e8; subst e1 e2 e3 e4 e5 e6 e7 e8; rfl
theorem cp_self (a : Psg) : cp a a = 0 := by have := cp_neg a a; omega
theorem perm_uniq {α : Type} {r : α → α → Prop} (ha : ∀ x y, r x y → r y x → x = y) : ∀ {l m : List α}, l.Perm m → l.Pairwise r → m.Pairwise r → l = m
  | [], m, h, _, _ => (List.Perm.nil_eq h)
  | x :: l, [], h, _, _ => by have := h.length_eq; simp at this
  | x :: l, y :: m, h, h1, h2 => by
    rw [List.pairwise_cons] at h1 h2
    have e : x = y := by
      have hx : x ∈ y :: m := h.subset (by simp)
      have hy : y ∈ x :: l := h.symm.subset (by simp)
      rcases List.mem_cons.1 hx with e | hx
      · exact e
      · rcases List.mem_cons.1 hy with e | hy
        · exact e.symm
        · exact ha _ _ (h1.1 y hy) (h2.1 x hx)
    subst e
    rw [perm_uniq ha (List.Perm.cons_inv h) h1.2 h2.2]
def leP (x y : Psg) : Bool := decide (cp x y ≤ 0)
noncomputable def srt (l : List Psg) : List Psg := l.mergeSort leP
theorem leP_tr (a b c : Psg) (h1 : leP a b = true) (h2 : leP b c = true) : leP a c = true := by
  unfold leP at *
  simp only [decide_eq_true_eq] at *
  exact (cp_tq a b c h1 h2).1
theorem leP_tot (a b : Psg) : (leP a b || leP b a) = true := by
  unfold leP
  have := cp_neg a b
  simp only [Bool.or_eq_true, decide_eq_true_eq]; omega
theorem srt_perm (l : List Psg) : (srt l).Perm l := List.mergeSort_perm l leP
theorem srt_pw (l : List Psg) : (srt l).Pairwise (fun x y => cp x y ≤ 0) := by
  have := List.pairwise_mergeSort leP_tr leP_tot l
  exact this.imp (fun h => by unfold leP at h; simpa using h)
theorem srt_eq {l l' : List Psg} (hp : l'.Perm l) (hs : l'.Pairwise (fun x y => cp x y ≤ 0)) : l' = srt l :=
  perm_uniq (fun x y h1 h2 => cp_0 (by have := cp_neg x y; omega)) (hp.trans (srt_perm l).symm) hs (srt_pw l)
theorem srt_len (l : List Psg) : (srt l).length = l.length := (srt_perm l).length_eq
theorem sortG : SortG Tryz.prog 47 8 := ⟨fun β _ enc hk h1 cf hO g cb blk off cap d w eg hc hH hb hs => AnyQ.slices_SortFunc Tryz.sortP 8 Tryz.isAgg24 Tryz.sizeOf24 enc hk h1 cf hO g cb blk off cap d w eg hc hH hb hs, fun p cap fv w => AnyF.slices_SortFunc_none Tryz.sortP p cap fv w⟩
theorem sortD : SortOkD Tryz.prog 47 48 [] 8 ePsg (fun x => x.src.length ≤ 30) (ltOf cp) := sortOkD_of sortG (fun _ => rfl) (swo_of cp_neg cp_tq) (enters_of Tryz.func48 (by kernel_rfl) rfl) (fun x y hx hy => cpC x y hx hy)
theorem tD_same {α : Type} [Inhabited α] {e : α → List DV} {l : List α} {k : Nat} (h : k < l.length) {y : List OC} (hy : y = (e (ix l k)).map OC.dv) : (tD e l).set k y = tD e l := by
  apply List.ext_getElem?
  intro i
  rw [List.getElem?_set]
  by_cases hi : k = i
  · subst hi
    rw [if_pos rfl, if_pos (by rw [tD_len]; exact h), tD_at h, hy]
  · rw [if_neg hi]
def oPsg (x : Psg) : List OC := [.dv (.fl (.string x.id)), .dv (.fl (.string x.point)), .dv (.fl (.int .i64 x.time)), .dv (.fl (.string x.tag)), .dv (.fl (.string x.plate)), .dv (.fl (.int .i64 x.cls)), .dv (.fl (.int .i64 x.score)), .ow 54 2 (List.map eSrc x.src)]
def oneB (x : Psg) : Bool := ((((decide ((x.id.size : Int) ≤ 80) && decide ((x.point.size : Int) ≤ 40)) && decide ((x.tag.size : Int) ≤ 40)) && decide ((x.plate.size : Int) ≤ 40)) && decide ((x.src.length : Int) ≤ 30)) && !(x.src.any fun y => decide (40 < (y.dev.size : Int)))
theorem one_sz {x : Psg} (h : oneB x = true) : szP x := by
  simp only [oneB, Bool.and_eq_true, Bool.not_eq_true', decide_eq_true_eq, List.any_eq_false] at h
  refine ⟨by omega, by omega, by omega, by omega, by omega, fun q hq => ?_⟩
  have := h.2 _ (ix_mem hq)
  omega
theorem one_n {x : Psg} {k : Nat} (hk : k < x.src.length) (h : decide (40 < ((ix x.src k).dev.size : Int)) = true) : oneB x = false := by unfold oneB; rw [any_at (p := fun y : Src => decide (40 < (y.dev.size : Int))) hk h]; simp
theorem one_y {x : Psg} (hq : ∀ q, q < x.src.length → decide (40 < ((ix x.src q).dev.size : Int)) = false) : oneB x = ((((decide ((x.id.size : Int) ≤ 80) && decide ((x.point.size : Int) ≤ 40)) && decide ((x.tag.size : Int) ≤ 40)) && decide ((x.plate.size : Int) ≤ 40)) && decide ((x.src.length : Int) ≤ 30)) := by unfold oneB; rw [any_no (p := fun y : Src => decide (40 < (y.dev.size : Int))) hq]; simp
def fewP (l : List Psg) : Bool := l.all oneB && decide ((l.length : Int) ≤ 40)
theorem few_n {l : List Psg} {k : Nat} (hk : k < l.length) (h : oneB (ix l k) = false) : fewP l = false := by unfold fewP; rw [all_no hk h]; rfl
theorem few_y {l : List Psg} (hq : ∀ q, q < l.length → oneB (ix l q) = true) : fewP l = decide ((l.length : Int) ≤ 40) := by unfold fewP; rw [all_yes hq]; rfl
theorem few_t {l : List Psg} (h : fewP l = true) : l.length ≤ 40 ∧ ∀ x ∈ l, szP x := by
  simp only [fewP, Bool.and_eq_true, List.all_eq_true, decide_eq_true_eq] at h
  exact ⟨by omega, fun x hx => one_sz (h.1 x hx)⟩

set_option maxHeartbeats 4000000 in
set_option maxRecDepth 100000 in
theorem cloP (l : List Psg) (hl : l.length ≤ 1000) : CtrO Tryz.prog 90 [.sl 8 (List.map ePsg l)] (.tr 24 8 (tD ePsg l)) := by
  refine ctrO (n := 8) (rs := #[.tmp 2]) (L := [(0, .d (.sl 8 (List.map ePsg l)))]) Tryz.func90 rfl rfl rfl rfl rfl (fun w0 U0 => ?_)
  refine a_rseq ?_
  refine rg_put (d := 2) (v := .d (.fl (.slice none 0 0))) rfl (og rfl (op_assign rfl rfl rfl)) ?_
  refine rg_done rfl ?_
  refine a_seq ?_
  refine a_rseq ?_
  refine rg_put (d := 3) (v := .d (.sl 8 (List.map ePsg l))) rfl (og rfl (op_move rfl rfl rfl)) ?_
  refine rg_isnil rfl rfl rfl Tryz.underlying38 rfl rfl rfl (fun bh1 nh1 => ?_)
  refine rg_done rfl ?_
  refine a_cond rfl (fun h2 => ?_) (fun h2 => ?_)
  · skip
    refine a_rseq ?_
    refine rg_put (d := 2) (v := .d (.fl (.slice none 0 0))) rfl (og rfl (op_assign rfl rfl rfl)) ?_
    refine rg_done rfl ?_
    have hnil : l = [] := by simpa using nh1 h2
    subst hnil
    refine a_imp (imp_nilT 2 101 24 8 rfl rfl) ?_
    refine a_ret ?_
    show ∃ rv, _ = #[rv] ∧ ResO _ _ rv _
    exact ⟨_, rfl, .tmp rfl rfl⟩
  · skip
    refine a_skip ?_
    show A _ _ _ _ _ _ _
    refine a_rseq ?_
    refine rg_nam (d := 5) (v := .ow 102) (m := 102) (nw := [(102, .tr 24 8 (tD ePsg []))]) rfl (og rfl (of_eff (op_slice0 102 rfl Tryz.underlying38 ti24 rfl) rfl)) rfl ?_
    refine rg_put (d := 6) (v := .d (.sl 8 (List.map ePsg l))) rfl (og rfl (op_move rfl rfl rfl)) ?_
    refine rg_nam (d := 7) (v := .ow 103) (m := 103) (nw := [(103, .tr 24 8 (tD ePsg ([] ++ l))), (102, .no)]) rfl (og rfl (of_eff (s_append_td 103 rfl Tryz.underlying38 ti24 rfl rfl rfl rfl rfl (.d _) (by simp only [List.length_nil]; omega) rfl) rfl)) rfl ?_
    refine rg_put (d := 2) (v := .ow 103) rfl (og rfl (op_assign rfl rfl rfl)) ?_
    refine rg_done rfl ?_
    refine a_ret ?_
    show ∃ rv, _ = #[rv] ∧ ResO _ _ rv _
    exact ⟨_, rfl, .tmp rfl rfl⟩
set_option maxHeartbeats 4000000 in
set_option maxRecDepth 100000 in
theorem cloS (l : List Src) (hl : l.length ≤ 1000) : CtrO Tryz.prog 91 [.sl 2 (List.map eSrc l)] (.tr 54 2 (tD eSrc l)) := by
  refine ctrO (n := 8) (rs := #[.tmp 2]) (L := [(0, .d (.sl 2 (List.map eSrc l)))]) Tryz.func91 rfl rfl rfl rfl rfl (fun w0 U0 => ?_)
  refine a_rseq ?_
  refine rg_put (d := 2) (v := .d (.fl (.slice none 0 0))) rfl (og rfl (op_assign rfl rfl rfl)) ?_
  refine rg_done rfl ?_
  refine a_seq ?_
  refine a_rseq ?_
  refine rg_put (d := 3) (v := .d (.sl 2 (List.map eSrc l))) rfl (og rfl (op_move rfl rfl rfl)) ?_
  refine rg_isnil rfl rfl rfl Tryz.underlying22 rfl rfl rfl (fun bh1 nh1 => ?_)
  refine rg_done rfl ?_
  refine a_cond rfl (fun h2 => ?_) (fun h2 => ?_)
  · skip
    refine a_rseq ?_
    refine rg_put (d := 2) (v := .d (.fl (.slice none 0 0))) rfl (og rfl (op_assign rfl rfl rfl)) ?_
    refine rg_done rfl ?_
    have hnil : l = [] := by simpa using nh1 h2
    subst hnil
    refine a_imp (imp_nilT 2 101 54 2 rfl rfl) ?_
    refine a_ret ?_
    show ∃ rv, _ = #[rv] ∧ ResO _ _ rv _
    exact ⟨_, rfl, .tmp rfl rfl⟩
  · skip
    refine a_skip ?_
    show A _ _ _ _ _ _ _
    refine a_rseq ?_
    refine rg_nam (d := 5) (v := .ow 102) (m := 102) (nw := [(102, .tr 54 2 (tD eSrc []))]) rfl (og rfl (of_eff (op_slice0 102 rfl Tryz.underlying22 ti54 rfl) rfl)) rfl ?_
    refine rg_put (d := 6) (v := .d (.sl 2 (List.map eSrc l))) rfl (og rfl (op_move rfl rfl rfl)) ?_
    refine rg_nam (d := 7) (v := .ow 103) (m := 103) (nw := [(103, .tr 54 2 (tD eSrc ([] ++ l))), (102, .no)]) rfl (og rfl (of_eff (s_append_td 103 rfl Tryz.underlying22 ti54 rfl rfl rfl rfl rfl (.d _) (by simp only [List.length_nil]; omega) rfl) rfl)) rfl ?_
    refine rg_put (d := 2) (v := .ow 103) rfl (og rfl (op_assign rfl rfl rfl)) ?_
    refine rg_done rfl ?_
    refine a_ret ?_
    show ∃ rv, _ = #[rv] ∧ ResO _ _ rv _
    exact ⟨_, rfl, .tmp rfl rfl⟩
set_option maxHeartbeats 4000000 in
set_option maxRecDepth 100000 in
theorem freshP (x : Psg) (h1 : x.src.length ≤ 30) : CtrO Tryz.prog 73 [.ag (ePsg x)] (.sv (oPsg x)) := by
  refine ctrO (n := 8) (rs := #[.cell 2 24]) (L := [(0, .d (.ag (ePsg x)))]) Tryz.func73 rfl rfl rfl rfl rfl (fun w0 U0 => ?_)
  refine a_rseq ?_
  refine rg_nam (d := 1) (v := .pt 101 0) (m := 101) (nw := [(101, .bx 24 (ePsg x))]) rfl (og rfl (of_eff (op_box 101 rfl rfl rfl rfl) rfl)) rfl ?_
  refine rg_nam (d := 2) (v := .pt 102 0) (m := 102) (nw := [(102, .bx 24 ([.fl (.string (⟨#[]⟩)), .fl (.string (⟨#[]⟩)), .fl (.int .i64 0), .fl (.string (⟨#[]⟩)), .fl (.string (⟨#[]⟩)), .fl (.int .i64 0), .fl (.int .i64 0), .fl (.slice none 0 0)]))]) rfl (og rfl (of_eff (s_alloc 102 rfl ti24 (by kernel_rfl) rfl) rfl)) rfl ?_
  refine rg_done rfl ?_
  refine a_rseq ?_
  refine rg_imp (imp_bt 101 rfl) ?_
  refine rg_imp (imp_bt 102 rfl) ?_
  refine rg_put (d := 3) (v := .pt 101 7) rfl (og rfl (of_eff (s_field_pt rfl Tryz.underlying24 rfl ti22 rfl rfl rfl) rfl)) ?_
  refine rg_put (d := 4) (v := .d (.sl 2 (List.map eSrc x.src))) rfl (og rfl (op_load_bt rfl Tryz.underlying22 rfl rfl rfl rfl rfl)) ?_
  refine rg_nam (d := 5) (v := .ow 103) (m := 103) (nw := [(103, .tr 54 2 (tD eSrc x.src))]) rfl (og rfl (of_eff (op_callO 103 rfl Tryz.func91 nm91 rfl (.cons rfl (.d _) .nil) (cloS x.src (by omega)) rfl) rfl)) rfl ?_
  refine rg_put (d := 6) (v := .pt 101 7) rfl (og rfl (of_eff (s_field_pt rfl Tryz.underlying24 rfl ti22 rfl rfl rfl) rfl)) ?_
  refine rg_sto (nw := [(101, .bt 24 [.dv (.fl (.string x.id)), .dv (.fl (.string x.point)), .dv (.fl (.int .i64 x.time)), .dv (.fl (.string x.tag)), .dv (.fl (.string x.plate)), .dv (.fl (.int .i64 x.cls)), .dv (.fl (.int .i64 x.score)), .ow 54 2 (List.map eSrc x.src)]), (103, .no)]) rfl (og rfl (of_eff (op_store_bt rfl rfl ti22 rfl rfl rfl (.tr rfl) rfl rfl rfl) rfl)) ?_
  refine rg_done rfl ?_
  refine a_rseq ?_
  refine rg_nam (d := 7) (v := .ow 104) (m := 104) (nw := [(104, .sv [.dv (.fl (.string x.id)), .dv (.fl (.string x.point)), .dv (.fl (.int .i64 x.time)), .dv (.fl (.string x.tag)), .dv (.fl (.string x.plate)), .dv (.fl (.int .i64 x.cls)), .dv (.fl (.int .i64 x.score)), .ow 54 2 (List.map eSrc x.src)]), (101, .no)]) rfl (og rfl (of_eff (op_move_bt 104 rfl Tryz.underlying24 rfl ti24 rfl rfl rfl rfl) rfl)) rfl ?_
  refine rg_sto (nw := [(102, .bt 24 [.dv (.fl (.string x.id)), .dv (.fl (.string x.point)), .dv (.fl (.int .i64 x.time)), .dv (.fl (.string x.tag)), .dv (.fl (.string x.plate)), .dv (.fl (.int .i64 x.cls)), .dv (.fl (.int .i64 x.score)), .ow 54 2 (List.map eSrc x.src)]), (104, .no)]) rfl (og rfl (of_eff (op_store_bt rfl rfl ti24 rfl rfl rfl (.sv rfl) rfl rfl rfl) rfl)) ?_
  refine rg_done rfl ?_
  refine a_ret ?_
  show ∃ rv, _ = #[rv] ∧ ResO _ _ rv _
  exact ⟨_, rfl, .cell rfl rfl Tryz.underlying24 rfl ti24 rfl⟩
theorem copyP (x : Psg) (h1 : x.src.length ≤ 30) : Ctr Tryz.prog 73 [.ag (ePsg x)] (.d (.ag (ePsg x))) := ctr_of_O (freshP x h1) rfl
set_option maxHeartbeats 4000000 in
set_option maxRecDepth 100000 in
theorem lisP (l : List Psg) (hl : l.length ≤ 1000) (hz : ∀ x ∈ l, x.src.length ≤ 30) : CtrO Tryz.prog 72 [.sl 8 (List.map ePsg l), .fn 73 []] (.tr 24 8 (tD ePsg l)) := by
  refine ctrO (n := 25) (rs := #[.tmp 4]) (L := [(0, .d (.sl 8 (List.map ePsg l))), (1, .d (.fn 73 []))]) Tryz.func72 rfl rfl rfl rfl rfl (fun w0 U0 => ?_)
  refine a_rseq ?_
  refine rg_put (d := 4) (v := .d (.fl (.slice none 0 0))) rfl (og rfl (op_assign rfl rfl rfl)) ?_
  refine rg_done rfl ?_
  refine a_rseq ?_
  refine rg_put (d := 7) (v := .d (.sl 8 (List.map ePsg l))) rfl (og rfl (op_move rfl rfl rfl)) ?_
  refine rg_nam (d := 8) (v := .ow 101) (m := 101) (nw := [(101, .tr 24 8 (tD ePsg l))]) rfl (og rfl (of_eff (op_callO 101 rfl Tryz.func90 nm90 rfl (.cons rfl (.d _) .nil) (cloP l (by omega)) rfl) rfl)) rfl ?_
  refine rg_put (d := 5) (v := .ow 101) rfl (og rfl (op_assign rfl rfl rfl)) ?_
  refine rg_done rfl ?_
  refine a_seq ?_
  refine a_rseq ?_
  refine rg_put (d := 9) (v := .ow 101) rfl (og rfl (op_move rfl rfl rfl)) ?_
  refine rg_put (d := 10) (v := .d (.fl (.int .i64 (((l).length : Int))))) rfl (og rfl (op_len_tr rfl Tryz.underlying38 rfl rfl tD_len rfl)) ?_
  refine rg_put (d := 11) (v := .d (.fl (.int .i64 0))) rfl (og rfl (op_move rfl rfl rfl)) ?_
  refine rg_done rfl ?_
  refine a_block ?_
  refine a_loop (ι := Nat) (fun k => SS [(0, .d (.sl 8 (List.map ePsg l))), (1, .d (.fn 73 [])), (4, .d (.fl (.slice none 0 0))), (5, .ow 101), (10, .d (.fl (.int .i64 (((l).length : Int))))), (11, .d (.fl (.int .i64 (k : Int))))] [(101, .tr 24 8 (tD ePsg l))]) (fun k => k ≤ l.length) (fun k => l.length - k) 0 (by omega) (imp_forget rfl ⟨rfl, rfl, rfl, (by first | rfl | exact ci (by omega) | exact ci (by simp) | exact cd (by simp) | simp), rfl, (by first | rfl | exact ci (by omega) | exact ci (by simp) | exact cd (by simp) | simp), trivial⟩ ⟨(by first | rfl | simp), trivial⟩) (fun k hok => ?_)
  have hk := hok
  refine a_rseq ?_
  refine rg_put (d := 12) (v := .d (.fl (.bool ((decide ((k : Int) < ((l).length : Int))))))) rfl (og rfl (op_bin rfl rfl rfl (b_lss _ _ _ _) rfl)) ?_
  refine rg_done rfl ?_
  refine a_seq ?_
  refine a_cond rfl (fun h1 => ?_) (fun h1 => ?_)
  · skip
    have h2 := t_dec h1
    refine a_skip ?_
    show A _ _ _ _ _ _ _
    refine a_seq ?_
    refine a_block ?_
    refine a_rseq ?_
    refine rg_put (d := 13) (v := .d (.fl (.int .i64 (k : Int)))) rfl (og rfl (op_move rfl rfl rfl)) ?_
    refine rg_put (d := 6) (v := .d (.fl (.int .i64 (k : Int)))) rfl (og rfl (op_assign rfl rfl rfl)) ?_
    refine rg_done rfl ?_
    refine a_region ?_
    refine rg_put (d := 14) (v := .ow 101) rfl (og rfl (op_move rfl rfl rfl)) ?_
    refine rg_put (d := 15) (v := .d (.fl (.int .i64 (k : Int)))) rfl (og rfl (op_move rfl rfl rfl)) ?_
    refine rg_put (d := 16) (v := .d (.fn 73 [])) rfl (og rfl (op_move rfl rfl rfl)) ?_
    refine rg_put (d := 17) (v := .ow 101) rfl (og rfl (op_move rfl rfl rfl)) ?_
    refine rg_put (d := 18) (v := .d (.fl (.int .i64 (k : Int)))) rfl (og rfl (op_move rfl rfl rfl)) ?_
    refine rg_put (d := 19) (v := .pe 101 8 k 0) rfl (og rfl (op_index_tr rfl Tryz.underlying38 ti24 rfl rfl rfl (get_lt (tD_at (by omega))) rfl)) ?_
    refine rg_put (d := 20) (v := .d (.ag (ePsg (ix l k)))) rfl (og rfl (of_eff (op_load_pes rfl Tryz.underlying24 rfl ti24 rfl rfl (tD_at (by omega)) rfl rfl rfl) rfl)) ?_
    refine rg_put (d := 21) (v := .d (.ag (ePsg (ix l k)))) rfl (og rfl (op_callV rfl rfl ⟨_, Tryz.func73, nm73, rfl⟩ (.cons rfl (.d _) .nil) (copyP (ix l k) (hz _ (ix_mem (by omega)))) rfl)) ?_
    refine rg_put (d := 22) (v := .pe 101 8 k 0) rfl (og rfl (op_index_tr rfl Tryz.underlying38 ti24 rfl rfl rfl (get_lt (tD_at (by omega))) rfl)) ?_
    refine rg_sto (nw := [(101, .tr 24 8 (((tD ePsg l).set k [.dv (.fl (.string ((ix l k).id))), .dv (.fl (.string ((ix l k).point))), .dv (.fl (.int .i64 ((ix l k).time))), .dv (.fl (.string ((ix l k).tag))), .dv (.fl (.string ((ix l k).plate))), .dv (.fl (.int .i64 ((ix l k).cls))), .dv (.fl (.int .i64 ((ix l k).score))), .dv (.sl 2 (List.map eSrc ((ix l k).src)))])))]) rfl (og rfl (of_eff (op_store_pe rfl rfl ti24 rfl rfl (tD_at (by omega)) rfl (.d rfl) rfl rfl rfl) rfl)) ?_
    refine rg_done rfl ?_
    show A _ _ _ _ _ _ _
    refine a_region ?_
    refine rg_put (d := 23) (v := .d (.fl (.int .i64 (((k : Int) + 1))))) rfl (og rfl (op_bin rfl rfl rfl (fun x y w => b_add64 _ _ _ x y w (by omega)) rfl)) ?_
    refine rg_put (d := 11) (v := .d (.fl (.int .i64 (((k : Int) + 1))))) rfl (og rfl (op_move rfl rfl rfl)) ?_
    refine rg_done rfl ?_
    show ∃ i, _ ∧ _ ∧ Imp _ _ _ _ _
    refine ⟨k + 1, (by omega), by omega, imp_forget rfl ⟨rfl, rfl, rfl, rfl, rfl, (by first | rfl | exact ci (by omega) | exact ci (by simp) | exact cd (by simp) | simp), trivial⟩ ⟨(congrArg (fun z => Ob.tr 24 8 z) (tD_same (by omega) rfl)), trivial⟩⟩
  · skip
    have h3 := f_dec h1
    refine a_exit ?_
    show A _ _ _ _ _ _ _
    refine a_rseq ?_
    refine rg_put (d := 24) (v := .ow 101) rfl (og rfl (op_move rfl rfl rfl)) ?_
    refine rg_put (d := 4) (v := .ow 101) rfl (og rfl (op_assign rfl rfl rfl)) ?_
    refine rg_done rfl ?_
    refine a_ret ?_
    show ∃ rv, _ = #[rv] ∧ ResO _ _ rv _
    exact ⟨_, rfl, .tmp rfl rfl⟩
set_option maxHeartbeats 4000000 in
set_option maxRecDepth 100000 in
theorem frP (l : List Psg) (hl : l.length ≤ 1000) (hz : ∀ x ∈ l, x.src.length ≤ 30) : CtrO Tryz.prog 46 [.sl 8 (List.map ePsg l)] (.tr 24 8 (tD ePsg l)) := by
  refine ctrO (n := 5) (rs := #[.tmp 2]) (L := [(0, .d (.sl 8 (List.map ePsg l)))]) Tryz.func46 rfl rfl rfl rfl rfl (fun w0 U0 => ?_)
  refine a_rseq ?_
  refine rg_put (d := 2) (v := .d (.fl (.slice none 0 0))) rfl (og rfl (op_assign rfl rfl rfl)) ?_
  refine rg_done rfl ?_
  refine a_rseq ?_
  refine rg_put (d := 3) (v := .d (.sl 8 (List.map ePsg l))) rfl (og rfl (op_move rfl rfl rfl)) ?_
  refine rg_nam (d := 4) (v := .ow 101) (m := 101) (nw := [(101, .tr 24 8 (tD ePsg l))]) rfl (og rfl (of_eff (op_callO 101 rfl Tryz.func72 nm72 rfl (.cons rfl (.d _) (.cons rfl (.d _) .nil)) (lisP l hl hz) rfl) rfl)) rfl ?_
  refine rg_put (d := 2) (v := .ow 101) rfl (og rfl (op_assign rfl rfl rfl)) ?_
  refine rg_done rfl ?_
  refine a_ret ?_
  show ∃ rv, _ = #[rv] ∧ ResO _ _ rv _
  exact ⟨_, rfl, .tmp rfl rfl⟩
set_option maxHeartbeats 4000000 in
set_option maxRecDepth 100000 in
theorem sortC (l : List Psg) (hl : l.length ≤ 1000) (hz : ∀ x ∈ l, x.src.length ≤ 30) : Ctr Tryz.prog 21 [.sl 8 (List.map ePsg l)] (.d (.sl 8 (List.map ePsg (srt l)))) := by
  refine ctr (n := 9) (rs := #[.tmp 2]) (L := [(0, .d (.sl 8 (List.map ePsg l)))]) Tryz.func21 rfl rfl rfl rfl rfl (fun w0 U0 => ?_)
  refine a_rseq ?_
  refine rg_put (d := 2) (v := .d (.fl (.slice none 0 0))) rfl (og rfl (op_assign rfl rfl rfl)) ?_
  refine rg_done rfl ?_
  refine a_rseq ?_
  refine rg_put (d := 4) (v := .d (.sl 8 (List.map ePsg l))) rfl (og rfl (op_move rfl rfl rfl)) ?_
  refine rg_nam (d := 5) (v := .ow 101) (m := 101) (nw := [(101, .tr 24 8 (tD ePsg l))]) rfl (og rfl (of_eff (op_callO 101 rfl Tryz.func46 nm46 rfl (.cons rfl (.d _) .nil) (frP l hl hz) rfl) rfl)) rfl ?_
  refine rg_put (d := 3) (v := .ow 101) rfl (og rfl (op_assign rfl rfl rfl)) ?_
  refine rg_done rfl ?_
  refine a_rseq ?_
  refine rg_put (d := 6) (v := .ow 101) rfl (og rfl (op_move rfl rfl rfl)) ?_
  refine rg_sortE rfl rfl rfl rfl (by rfl) Tryz.func47 nm47 rfl rfl rfl rfl (fun _ => rfl) hz sortD (by omega) (fun l' hp hs => ?_)
  have hl' : l' = srt l := srt_eq hp (hs.imp (fun h => le_of_sorted cp_neg h))
  rw [show l' = (srt l) from hl']
  refine rg_done rfl ?_
  refine a_rseq ?_
  refine rg_put (d := 8) (v := .ow 101) rfl (og rfl (op_move rfl rfl rfl)) ?_
  refine rg_put (d := 2) (v := .ow 101) rfl (og rfl (op_assign rfl rfl rfl)) ?_
  refine rg_done rfl ?_
  refine a_imp (imp_leakT 2 101 rfl rfl) ?_
  refine a_ret ?_
  show ∃ ds, ResL _ _ _ ds ∧ RV.of ds = _
  refine ⟨[.sl 8 (List.map ePsg (srt l))], (.cons (.tmp rfl (.d _)) .nil), ?_⟩
  rfl
set_option maxHeartbeats 4000000 in
set_option maxRecDepth 100000 in
theorem oneC (x : Psg) (hx9 : x.src.length ≤ 9223372036854775807) : Ctr Tryz.prog 11 [.ag (ePsg x)] (.d (.fl (.bool (oneB x)))) := by
  refine ctr (n := 47) (rs := #[.tmp 2]) (L := [(0, .d (.ag (ePsg x)))]) Tryz.func11 rfl rfl rfl rfl rfl (fun w0 U0 => ?_)
  refine a_rseq ?_
  refine rg_nam (d := 1) (v := .pt 101 0) (m := 101) (nw := [(101, .bx 24 (ePsg x))]) rfl (og rfl (of_eff (op_box 101 rfl rfl rfl rfl) rfl)) rfl ?_
  refine rg_put (d := 2) (v := .d (.fl (.bool false))) rfl (og rfl (op_assign rfl rfl rfl)) ?_
  refine rg_done rfl ?_
  refine a_seq ?_
  refine a_rseq ?_
  refine rg_put (d := 3) (v := .d (.fl (.int .i64 0))) rfl (og rfl (op_assign rfl rfl rfl)) ?_
  refine rg_done rfl ?_
  refine a_block ?_
  refine a_loop (ι := Nat) (fun k => SS [(0, .d (.ag (ePsg x))), (1, .pt 101 0), (3, .d (.fl (.int .i64 (k : Int))))] [(101, .bx 24 (ePsg x))]) (fun k => k ≤ x.src.length ∧ ∀ q, q < k → decide (40 < ((ix x.src q).dev.size : Int)) = false) (fun k => x.src.length - k) 0 (⟨by omega, fun q h => by omega⟩) (imp_forget rfl ⟨rfl, rfl, (by first | rfl | exact ci (by omega) | exact ci (by simp) | exact cd (by simp) | simp), trivial⟩ ⟨rfl, trivial⟩) (fun k hok => ?_)
  obtain ⟨hkk, hq⟩ := hok
  refine a_seq ?_
  refine a_rseq ?_
  refine rg_put (d := 4) (v := .d (.fl (.int .i64 (k : Int)))) rfl (og rfl (op_move rfl rfl rfl)) ?_
  refine rg_put (d := 5) (v := .pt 101 7) rfl (og rfl (of_eff (s_field_pt rfl Tryz.underlying24 rfl ti22 rfl rfl rfl) rfl)) ?_
  refine rg_put (d := 6) (v := .d (.sl 2 (List.map eSrc x.src))) rfl (og rfl (op_load_pt rfl Tryz.underlying22 rfl rfl rfl rfl rfl)) ?_
  refine rg_put (d := 7) (v := .d (.fl (.int .i64 (x.src.length : Int)))) rfl (og rfl (s_len rfl Tryz.underlying22 rfl rfl)) ?_
  refine rg_put (d := 8) (v := .d (.fl (.bool ((decide ((k : Int) < (x.src.length : Int))))))) rfl (og rfl (op_bin rfl rfl rfl (b_lss _ _ _ _) rfl)) ?_
  refine rg_done rfl ?_
  refine a_cond rfl (fun h1 => ?_) (fun h1 => ?_)
  · skip
    have h2 := t_dec h1
    refine a_skip ?_
    show A _ _ _ _ _ _ _
    refine a_seq ?_
    refine a_block ?_
    refine a_rseq ?_
    refine rg_put (d := 11) (v := .pt 101 7) rfl (og rfl (of_eff (s_field_pt rfl Tryz.underlying24 rfl ti22 rfl rfl rfl) rfl)) ?_
    refine rg_put (d := 12) (v := .d (.sl 2 (List.map eSrc x.src))) rfl (og rfl (op_load_pt rfl Tryz.underlying22 rfl rfl rfl rfl rfl)) ?_
    refine rg_put (d := 13) (v := .d (.fl (.int .i64 (k : Int)))) rfl (og rfl (op_move rfl rfl rfl)) ?_
    refine rg_put (d := 14) (v := .el ((eSrc (ix x.src k)))) rfl (og rfl (s_index rfl Tryz.underlying22 ti54 rfl rfl (by omega) (row_at (by omega)) rfl)) ?_
    refine rg_put (d := 15) (v := .el ((List.drop 0 ((eSrc (ix x.src k)))))) rfl (og rfl (of_eff (s_field_el rfl Tryz.underlying54 rfl ti9 rfl rfl rfl) rfl)) ?_
    refine rg_put (d := 16) (v := .d (.fl (.string ((ix x.src k).dev)))) rfl (og rfl (op_load_el rfl Tryz.underlying9 rfl rfl rfl rfl)) ?_
    refine rg_put (d := 17) (v := .d (.fl (.int .i64 ((((ix x.src k).dev).size : Int))))) rfl (og rfl (op_len_str rfl Tryz.underlying9 rfl rfl)) ?_
    refine rg_put (d := 18) (v := .d (.fl (.bool ((decide (40 < (((ix x.src k).dev).size : Int))))))) rfl (og rfl (op_bin rfl rfl rfl (b_gtr _ _ _ _) rfl)) ?_
    refine rg_done rfl ?_
    refine a_cond rfl (fun h3 => ?_) (fun h3 => ?_)
    · skip
      have h4 := t_dec h3
      refine a_rseq ?_
      refine rg_put (d := 2) (v := .d (.fl (.bool false))) rfl (og rfl (op_assign rfl rfl rfl)) ?_
      refine rg_done rfl ?_
      refine a_ret ?_
      show ∃ ds, ResL _ _ _ ds ∧ RV.of ds = _
      refine ⟨[.fl (.bool false)], (.cons (.tmp rfl (.d _)) .nil), ?_⟩
      rw [one_n (by omega) h3]; rfl
    · skip
      have h5 := f_dec h3
      refine a_skip ?_
      show A _ _ _ _ _ _ _
      refine a_region ?_
      refine rg_put (d := 9) (v := .d (.fl (.int .i64 (k : Int)))) rfl (og rfl (op_move rfl rfl rfl)) ?_
      refine rg_put (d := 10) (v := .d (.fl (.int .i64 (((k : Int) + 1))))) rfl (og rfl (op_bin rfl rfl rfl (fun x y w => b_add64 _ _ _ x y w (by omega)) rfl)) ?_
      refine rg_put (d := 3) (v := .d (.fl (.int .i64 (((k : Int) + 1))))) rfl (og rfl (op_assign rfl rfl rfl)) ?_
      refine rg_done rfl ?_
      have hx : decide (40 < ((ix x.src k).dev.size : Int)) = false := h3
      show ∃ i, _ ∧ _ ∧ Imp _ _ _ _ _
      refine ⟨k + 1, ⟨by omega, fun q h => (Nat.lt_succ_iff_lt_or_eq.1 h).elim (hq q) (fun e => by rw [e]; exact hx)⟩, by omega, imp_forget rfl ⟨rfl, rfl, (by first | rfl | exact ci (by omega) | exact ci (by simp) | exact cd (by simp) | simp), trivial⟩ ⟨rfl, trivial⟩⟩
  · skip
    have h6 := f_dec h1
    refine a_exit ?_
    show A _ _ _ _ _ _ _
    refine a_rseq ?_
    refine rg_put (d := 19) (v := .pt 101 0) rfl (og rfl (of_eff (s_field_pt rfl Tryz.underlying24 rfl ti9 rfl rfl rfl) rfl)) ?_
    refine rg_put (d := 20) (v := .d (.fl (.string x.id))) rfl (og rfl (op_load_pt rfl Tryz.underlying9 rfl rfl rfl rfl rfl)) ?_
    refine rg_put (d := 21) (v := .d (.fl (.int .i64 (x.id.size : Int)))) rfl (og rfl (op_len_str rfl Tryz.underlying9 rfl rfl)) ?_
    refine rg_put (d := 22) (v := .d (.fl (.bool ((decide ((x.id.size : Int) ≤ 80)))))) rfl (og rfl (op_bin rfl rfl rfl (b_leq _ _ _ _) rfl)) ?_
    refine rg_put (d := 23) (v := .d (.fl (.bool ((decide ((x.id.size : Int) ≤ 80)))))) rfl (og rfl (op_move rfl rfl rfl)) ?_
    rcases fot ((decide ((x.id.size : Int) ≤ 80))) with h7 | h7
    · skip
      have h8 := f_dec h7
      refine rg_put (d := 24) (v := .d (.fl undef)) rfl (on rfl rfl rfl h7) ?_
      refine rg_put (d := 25) (v := .d (.fl undef)) rfl (on rfl rfl rfl h7) ?_
      refine rg_put (d := 26) (v := .d (.fl undef)) rfl (on rfl rfl rfl h7) ?_
      refine rg_put (d := 27) (v := .d (.fl undef)) rfl (on rfl rfl rfl h7) ?_
      refine rg_put (d := 28) (v := .d (.fl (.bool false))) rfl (og rfl (op_pick rfl rfl (by rw [h7]; rfl) rfl)) ?_
      refine rg_put (d := 29) (v := .d (.fl (.bool false))) rfl (og rfl (op_move rfl rfl rfl)) ?_
      refine rg_put (d := 30) (v := .d (.fl undef)) rfl (on rfl rfl rfl rfl) ?_
      refine rg_put (d := 31) (v := .d (.fl undef)) rfl (on rfl rfl rfl rfl) ?_
      refine rg_put (d := 32) (v := .d (.fl undef)) rfl (on rfl rfl rfl rfl) ?_
      refine rg_put (d := 33) (v := .d (.fl undef)) rfl (on rfl rfl rfl rfl) ?_
      refine rg_put (d := 34) (v := .d (.fl (.bool false))) rfl (og rfl (op_pick rfl rfl rfl rfl)) ?_
      refine rg_put (d := 35) (v := .d (.fl (.bool false))) rfl (og rfl (op_move rfl rfl rfl)) ?_
      refine rg_put (d := 36) (v := .d (.fl undef)) rfl (on rfl rfl rfl rfl) ?_
      refine rg_put (d := 37) (v := .d (.fl undef)) rfl (on rfl rfl rfl rfl) ?_
      refine rg_put (d := 38) (v := .d (.fl undef)) rfl (on rfl rfl rfl rfl) ?_
      refine rg_put (d := 39) (v := .d (.fl undef)) rfl (on rfl rfl rfl rfl) ?_
      refine rg_put (d := 40) (v := .d (.fl (.bool false))) rfl (og rfl (op_pick rfl rfl rfl rfl)) ?_
      refine rg_put (d := 41) (v := .d (.fl (.bool false))) rfl (og rfl (op_move rfl rfl rfl)) ?_
      refine rg_put (d := 42) (v := .d (.fl undef)) rfl (on rfl rfl rfl rfl) ?_
      refine rg_put (d := 43) (v := .d (.fl undef)) rfl (on rfl rfl rfl rfl) ?_
      refine rg_put (d := 44) (v := .d (.fl undef)) rfl (on rfl rfl rfl rfl) ?_
      refine rg_put (d := 45) (v := .d (.fl undef)) rfl (on rfl rfl rfl rfl) ?_
      refine rg_put (d := 46) (v := .d (.fl (.bool false))) rfl (og rfl (op_pick rfl rfl rfl rfl)) ?_
      refine rg_put (d := 2) (v := .d (.fl (.bool false))) rfl (og rfl (op_assign rfl rfl rfl)) ?_
      refine rg_done rfl ?_
      refine a_ret ?_
      show ∃ ds, ResL _ _ _ ds ∧ RV.of ds = _
      refine ⟨[.fl (.bool false)], (.cons (.tmp rfl (.d _)) .nil), ?_⟩
      have hu := one_y (x := x) (fun q h => hq q (by omega))
      rw [show oneB x = false from by rw [hu]; simp only [h1, h7, Bool.true_or, Bool.false_or, Bool.or_true, Bool.or_false, Bool.not_true, Bool.not_false, cond_true, cond_false, Bool.true_and, Bool.false_and, Bool.and_true, Bool.and_false] <;> rfl]; rfl
    · skip
      have h9 := t_dec h7
      refine rg_put (d := 24) (v := .pt 101 1) rfl (oy rfl rfl rfl h7 (of_eff (s_field_pt rfl Tryz.underlying24 rfl ti9 rfl rfl rfl) rfl)) ?_
      refine rg_put (d := 25) (v := .d (.fl (.string x.point))) rfl (oy rfl rfl rfl h7 (op_load_pt rfl Tryz.underlying9 rfl rfl rfl rfl rfl)) ?_
      refine rg_put (d := 26) (v := .d (.fl (.int .i64 (x.point.size : Int)))) rfl (oy rfl rfl rfl h7 (op_len_str rfl Tryz.underlying9 rfl rfl)) ?_
      refine rg_put (d := 27) (v := .d (.fl (.bool ((decide ((x.point.size : Int) ≤ 40)))))) rfl (oy rfl rfl rfl h7 (op_bin rfl rfl rfl (b_leq _ _ _ _) rfl)) ?_
      refine rg_put (d := 28) (v := .d (.fl (.bool ((decide ((x.point.size : Int) ≤ 40)))))) rfl (og rfl (op_pick rfl rfl (by rw [h7]; rfl) rfl)) ?_
      refine rg_put (d := 29) (v := .d (.fl (.bool ((decide ((x.point.size : Int) ≤ 40)))))) rfl (og rfl (op_move rfl rfl rfl)) ?_
      rcases fot ((decide ((x.point.size : Int) ≤ 40))) with h10 | h10
      · skip
        have h11 := f_dec h10
        refine rg_put (d := 30) (v := .d (.fl undef)) rfl (on rfl rfl rfl h10) ?_
        refine rg_put (d := 31) (v := .d (.fl undef)) rfl (on rfl rfl rfl h10) ?_
        refine rg_put (d := 32) (v := .d (.fl undef)) rfl (on rfl rfl rfl h10) ?_
        refine rg_put (d := 33) (v := .d (.fl undef)) rfl (on rfl rfl rfl h10) ?_
        refine rg_put (d := 34) (v := .d (.fl (.bool false))) rfl (og rfl (op_pick rfl rfl (by rw [h10]; rfl) rfl)) ?_
        refine rg_put (d := 35) (v := .d (.fl (.bool false))) rfl (og rfl (op_move rfl rfl rfl)) ?_
        refine rg_put (d := 36) (v := .d (.fl undef)) rfl (on rfl rfl rfl rfl) ?_
        refine rg_put (d := 37) (v := .d (.fl undef)) rfl (on rfl rfl rfl rfl) ?_
        refine rg_put (d := 38) (v := .d (.fl undef)) rfl (on rfl rfl rfl rfl) ?_
        refine rg_put (d := 39) (v := .d (.fl undef)) rfl (on rfl rfl rfl rfl) ?_
        refine rg_put (d := 40) (v := .d (.fl (.bool false))) rfl (og rfl (op_pick rfl rfl rfl rfl)) ?_
        refine rg_put (d := 41) (v := .d (.fl (.bool false))) rfl (og rfl (op_move rfl rfl rfl)) ?_
        refine rg_put (d := 42) (v := .d (.fl undef)) rfl (on rfl rfl rfl rfl) ?_
        refine rg_put (d := 43) (v := .d (.fl undef)) rfl (on rfl rfl rfl rfl) ?_
        refine rg_put (d := 44) (v := .d (.fl undef)) rfl (on rfl rfl rfl rfl) ?_
        refine rg_put (d := 45) (v := .d (.fl undef)) rfl (on rfl rfl rfl rfl) ?_
        refine rg_put (d := 46) (v := .d (.fl (.bool false))) rfl (og rfl (op_pick rfl rfl rfl rfl)) ?_
        refine rg_put (d := 2) (v := .d (.fl (.bool false))) rfl (og rfl (op_assign rfl rfl rfl)) ?_
        refine rg_done rfl ?_
        refine a_ret ?_
        show ∃ ds, ResL _ _ _ ds ∧ RV.of ds = _
        refine ⟨[.fl (.bool false)], (.cons (.tmp rfl (.d _)) .nil), ?_⟩
        have hu := one_y (x := x) (fun q h => hq q (by omega))
        rw [show oneB x = false from by rw [hu]; simp only [h1, h7, h10, Bool.true_or, Bool.false_or, Bool.or_true, Bool.or_false, Bool.not_true, Bool.not_false, cond_true, cond_false, Bool.true_and, Bool.false_and, Bool.and_true, Bool.and_false] <;> rfl]; rfl
      · skip
        have h12 := t_dec h10
        refine rg_put (d := 30) (v := .pt 101 3) rfl (oy rfl rfl rfl h10 (of_eff (s_field_pt rfl Tryz.underlying24 rfl ti9 rfl rfl rfl) rfl)) ?_
        refine rg_put (d := 31) (v := .d (.fl (.string x.tag))) rfl (oy rfl rfl rfl h10 (op_load_pt rfl Tryz.underlying9 rfl rfl rfl rfl rfl)) ?_
        refine rg_put (d := 32) (v := .d (.fl (.int .i64 (x.tag.size : Int)))) rfl (oy rfl rfl rfl h10 (op_len_str rfl Tryz.underlying9 rfl rfl)) ?_
        refine rg_put (d := 33) (v := .d (.fl (.bool ((decide ((x.tag.size : Int) ≤ 40)))))) rfl (oy rfl rfl rfl h10 (op_bin rfl rfl rfl (b_leq _ _ _ _) rfl)) ?_
        refine rg_put (d := 34) (v := .d (.fl (.bool ((decide ((x.tag.size : Int) ≤ 40)))))) rfl (og rfl (op_pick rfl rfl (by rw [h10]; rfl) rfl)) ?_
        refine rg_put (d := 35) (v := .d (.fl (.bool ((decide ((x.tag.size : Int) ≤ 40)))))) rfl (og rfl (op_move rfl rfl rfl)) ?_
        rcases fot ((decide ((x.tag.size : Int) ≤ 40))) with h13 | h13
        · skip
          have h14 := f_dec h13
          refine rg_put (d := 36) (v := .d (.fl undef)) rfl (on rfl rfl rfl h13) ?_
          refine rg_put (d := 37) (v := .d (.fl undef)) rfl (on rfl rfl rfl h13) ?_
          refine rg_put (d := 38) (v := .d (.fl undef)) rfl (on rfl rfl rfl h13) ?_
          refine rg_put (d := 39) (v := .d (.fl undef)) rfl (on rfl rfl rfl h13) ?_
          refine rg_put (d := 40) (v := .d (.fl (.bool false))) rfl (og rfl (op_pick rfl rfl (by rw [h13]; rfl) rfl)) ?_
          refine rg_put (d := 41) (v := .d (.fl (.bool false))) rfl (og rfl (op_move rfl rfl rfl)) ?_
          refine rg_put (d := 42) (v := .d (.fl undef)) rfl (on rfl rfl rfl rfl) ?_
          refine rg_put (d := 43) (v := .d (.fl undef)) rfl (on rfl rfl rfl rfl) ?_
          refine rg_put (d := 44) (v := .d (.fl undef)) rfl (on rfl rfl rfl rfl) ?_
          refine rg_put (d := 45) (v := .d (.fl undef)) rfl (on rfl rfl rfl rfl) ?_
          refine rg_put (d := 46) (v := .d (.fl (.bool false))) rfl (og rfl (op_pick rfl rfl rfl rfl)) ?_
          refine rg_put (d := 2) (v := .d (.fl (.bool false))) rfl (og rfl (op_assign rfl rfl rfl)) ?_
          refine rg_done rfl ?_
          refine a_ret ?_
          show ∃ ds, ResL _ _ _ ds ∧ RV.of ds = _
          refine ⟨[.fl (.bool false)], (.cons (.tmp rfl (.d _)) .nil), ?_⟩
          have hu := one_y (x := x) (fun q h => hq q (by omega))
          rw [show oneB x = false from by rw [hu]; simp only [h1, h7, h10, h13, Bool.true_or, Bool.false_or, Bool.or_true, Bool.or_false, Bool.not_true, Bool.not_false, cond_true, cond_false, Bool.true_and, Bool.false_and, Bool.and_true, Bool.and_false] <;> rfl]; rfl
        · skip
          have h15 := t_dec h13
          refine rg_put (d := 36) (v := .pt 101 4) rfl (oy rfl rfl rfl h13 (of_eff (s_field_pt rfl Tryz.underlying24 rfl ti9 rfl rfl rfl) rfl)) ?_
          refine rg_put (d := 37) (v := .d (.fl (.string x.plate))) rfl (oy rfl rfl rfl h13 (op_load_pt rfl Tryz.underlying9 rfl rfl rfl rfl rfl)) ?_
          refine rg_put (d := 38) (v := .d (.fl (.int .i64 (x.plate.size : Int)))) rfl (oy rfl rfl rfl h13 (op_len_str rfl Tryz.underlying9 rfl rfl)) ?_
          refine rg_put (d := 39) (v := .d (.fl (.bool ((decide ((x.plate.size : Int) ≤ 40)))))) rfl (oy rfl rfl rfl h13 (op_bin rfl rfl rfl (b_leq _ _ _ _) rfl)) ?_
          refine rg_put (d := 40) (v := .d (.fl (.bool ((decide ((x.plate.size : Int) ≤ 40)))))) rfl (og rfl (op_pick rfl rfl (by rw [h13]; rfl) rfl)) ?_
          refine rg_put (d := 41) (v := .d (.fl (.bool ((decide ((x.plate.size : Int) ≤ 40)))))) rfl (og rfl (op_move rfl rfl rfl)) ?_
          rcases fot ((decide ((x.plate.size : Int) ≤ 40))) with h16 | h16
          · skip
            have h17 := f_dec h16
            refine rg_put (d := 42) (v := .d (.fl undef)) rfl (on rfl rfl rfl h16) ?_
            refine rg_put (d := 43) (v := .d (.fl undef)) rfl (on rfl rfl rfl h16) ?_
            refine rg_put (d := 44) (v := .d (.fl undef)) rfl (on rfl rfl rfl h16) ?_
            refine rg_put (d := 45) (v := .d (.fl undef)) rfl (on rfl rfl rfl h16) ?_
            refine rg_put (d := 46) (v := .d (.fl (.bool false))) rfl (og rfl (op_pick rfl rfl (by rw [h16]; rfl) rfl)) ?_
            refine rg_put (d := 2) (v := .d (.fl (.bool false))) rfl (og rfl (op_assign rfl rfl rfl)) ?_
            refine rg_done rfl ?_
            refine a_ret ?_
            show ∃ ds, ResL _ _ _ ds ∧ RV.of ds = _
            refine ⟨[.fl (.bool false)], (.cons (.tmp rfl (.d _)) .nil), ?_⟩
            have hu := one_y (x := x) (fun q h => hq q (by omega))
            rw [show oneB x = false from by rw [hu]; simp only [h1, h7, h10, h13, h16, Bool.true_or, Bool.false_or, Bool.or_true, Bool.or_false, Bool.not_true, Bool.not_false, cond_true, cond_false, Bool.true_and, Bool.false_and, Bool.and_true, Bool.and_false] <;> rfl]; rfl
          · skip
            have h18 := t_dec h16
            refine rg_put (d := 42) (v := .pt 101 7) rfl (oy rfl rfl rfl h16 (of_eff (s_field_pt rfl Tryz.underlying24 rfl ti22 rfl rfl rfl) rfl)) ?_
            refine rg_put (d := 43) (v := .d (.sl 2 (List.map eSrc x.src))) rfl (oy rfl rfl rfl h16 (op_load_pt rfl Tryz.underlying22 rfl rfl rfl rfl rfl)) ?_
            refine rg_put (d := 44) (v := .d (.fl (.int .i64 (x.src.length : Int)))) rfl (oy rfl rfl rfl h16 (s_len rfl Tryz.underlying22 rfl rfl)) ?_
            refine rg_put (d := 45) (v := .d (.fl (.bool ((decide ((x.src.length : Int) ≤ 30)))))) rfl (oy rfl rfl rfl h16 (op_bin rfl rfl rfl (b_leq _ _ _ _) rfl)) ?_
            refine rg_put (d := 46) (v := .d (.fl (.bool ((decide ((x.src.length : Int) ≤ 30)))))) rfl (og rfl (op_pick rfl rfl (by rw [h16]; rfl) rfl)) ?_
            refine rg_put (d := 2) (v := .d (.fl (.bool ((decide ((x.src.length : Int) ≤ 30)))))) rfl (og rfl (op_assign rfl rfl rfl)) ?_
            refine rg_done rfl ?_
            refine a_ret ?_
            show ∃ ds, ResL _ _ _ ds ∧ RV.of ds = _
            refine ⟨[.fl (.bool ((decide ((x.src.length : Int) ≤ 30))))], (.cons (.tmp rfl (.d _)) .nil), ?_⟩
            have hu := one_y (x := x) (fun q h => hq q (by omega))
            rw [show oneB x = (decide ((x.src.length : Int) ≤ 30)) from by rw [hu]; simp only [h1, h7, h10, h13, h16, Bool.true_or, Bool.false_or, Bool.or_true, Bool.or_false, Bool.not_true, Bool.not_false, cond_true, cond_false, Bool.true_and, Bool.false_and, Bool.and_true, Bool.and_false] <;> rfl]; rfl
set_option maxHeartbeats 4000000 in
set_option maxRecDepth 100000 in
theorem fewC (l : List Psg) (hl9 : l.length ≤ 9223372036854775807) (hm9 : ∀ x ∈ l, x.src.length ≤ 9223372036854775807) : Ctr Tryz.prog 19 [.sl 8 (List.map ePsg l)] (.d (.fl (.bool (fewP l)))) := by
  refine ctr (n := 19) (rs := #[.tmp 2]) (L := [(0, .d (.sl 8 (List.map ePsg l)))]) Tryz.func19 rfl rfl rfl rfl rfl (fun w0 U0 => ?_)
  refine a_rseq ?_
  refine rg_put (d := 2) (v := .d (.fl (.bool false))) rfl (og rfl (op_assign rfl rfl rfl)) ?_
  refine rg_done rfl ?_
  refine a_seq ?_
  refine a_rseq ?_
  refine rg_put (d := 3) (v := .d (.fl (.int .i64 0))) rfl (og rfl (op_assign rfl rfl rfl)) ?_
  refine rg_done rfl ?_
  refine a_block ?_
  refine a_loop (ι := Nat) (fun k => SS [(0, .d (.sl 8 (List.map ePsg l))), (3, .d (.fl (.int .i64 (k : Int))))] []) (fun k => k ≤ l.length ∧ ∀ q, q < k → (oneB (ix l q)) = true) (fun k => l.length - k) 0 (⟨by omega, fun q h => by omega⟩) (imp_forget rfl ⟨rfl, (by first | rfl | exact ci (by omega) | exact ci (by simp) | exact cd (by simp) | simp), trivial⟩ trivial) (fun k hok => ?_)
  obtain ⟨hkk, hq⟩ := hok
  refine a_seq ?_
  refine a_rseq ?_
  refine rg_put (d := 4) (v := .d (.fl (.int .i64 (k : Int)))) rfl (og rfl (op_move rfl rfl rfl)) ?_
  refine rg_put (d := 5) (v := .d (.sl 8 (List.map ePsg l))) rfl (og rfl (op_move rfl rfl rfl)) ?_
  refine rg_put (d := 6) (v := .d (.fl (.int .i64 (l.length : Int)))) rfl (og rfl (s_len rfl Tryz.underlying38 rfl rfl)) ?_
  refine rg_put (d := 7) (v := .d (.fl (.bool ((decide ((k : Int) < (l.length : Int))))))) rfl (og rfl (op_bin rfl rfl rfl (b_lss _ _ _ _) rfl)) ?_
  refine rg_done rfl ?_
  refine a_cond rfl (fun h1 => ?_) (fun h1 => ?_)
  · skip
    have h2 := t_dec h1
    refine a_skip ?_
    show A _ _ _ _ _ _ _
    refine a_seq ?_
    refine a_block ?_
    refine a_rseq ?_
    refine rg_put (d := 10) (v := .d (.sl 8 (List.map ePsg l))) rfl (og rfl (op_move rfl rfl rfl)) ?_
    refine rg_put (d := 11) (v := .d (.fl (.int .i64 (k : Int)))) rfl (og rfl (op_move rfl rfl rfl)) ?_
    refine rg_put (d := 12) (v := .el ((ePsg (ix l k)))) rfl (og rfl (s_index rfl Tryz.underlying38 ti24 rfl rfl (by omega) (row_at (by omega)) rfl)) ?_
    refine rg_put (d := 13) (v := .d (.ag (ePsg (ix l k)))) rfl (og rfl (of_eff (s_load_els rfl Tryz.underlying24 rfl ti24 rfl rfl rfl) rfl)) ?_
    refine rg_put (d := 14) (v := .d (.fl (.bool ((oneB (ix l k)))))) rfl (og rfl (op_call rfl Tryz.func11 nm11 rfl (.cons rfl (.d _) .nil) (oneC (ix l k) (hm9 _ (ix_mem (by omega)))) rfl)) ?_
    refine rg_put (d := 15) (v := .d (.fl (.bool ((!((oneB (ix l k)))))))) rfl (og rfl (op_un rfl rfl (u_not _) rfl)) ?_
    refine rg_done rfl ?_
    refine a_cond rfl (fun h3 => ?_) (fun h3 => ?_)
    · skip
      have h4 := t_not h3
      refine a_rseq ?_
      refine rg_put (d := 2) (v := .d (.fl (.bool false))) rfl (og rfl (op_assign rfl rfl rfl)) ?_
      refine rg_done rfl ?_
      refine a_ret ?_
      show ∃ ds, ResL _ _ _ ds ∧ RV.of ds = _
      refine ⟨[.fl (.bool false)], (.cons (.tmp rfl (.d _)) .nil), ?_⟩
      rw [few_n (by omega) h4]; rfl
    · skip
      have h5 := f_not h3
      refine a_skip ?_
      show A _ _ _ _ _ _ _
      refine a_region ?_
      refine rg_put (d := 8) (v := .d (.fl (.int .i64 (k : Int)))) rfl (og rfl (op_move rfl rfl rfl)) ?_
      refine rg_put (d := 9) (v := .d (.fl (.int .i64 (((k : Int) + 1))))) rfl (og rfl (op_bin rfl rfl rfl (fun x y w => b_add64 _ _ _ x y w (by omega)) rfl)) ?_
      refine rg_put (d := 3) (v := .d (.fl (.int .i64 (((k : Int) + 1))))) rfl (og rfl (op_assign rfl rfl rfl)) ?_
      refine rg_done rfl ?_
      have hx : (oneB (ix l k)) = true := h5
      show ∃ i, _ ∧ _ ∧ Imp _ _ _ _ _
      refine ⟨k + 1, ⟨by omega, fun q h => (Nat.lt_succ_iff_lt_or_eq.1 h).elim (hq q) (fun e => by rw [e]; exact hx)⟩, by omega, imp_forget rfl ⟨rfl, (by first | rfl | exact ci (by omega) | exact ci (by simp) | exact cd (by simp) | simp), trivial⟩ trivial⟩
  · skip
    have h6 := f_dec h1
    refine a_exit ?_
    show A _ _ _ _ _ _ _
    refine a_rseq ?_
    refine rg_put (d := 16) (v := .d (.sl 8 (List.map ePsg l))) rfl (og rfl (op_move rfl rfl rfl)) ?_
    refine rg_put (d := 17) (v := .d (.fl (.int .i64 (l.length : Int)))) rfl (og rfl (s_len rfl Tryz.underlying38 rfl rfl)) ?_
    refine rg_put (d := 18) (v := .d (.fl (.bool ((decide ((l.length : Int) ≤ 40)))))) rfl (og rfl (op_bin rfl rfl rfl (b_leq _ _ _ _) rfl)) ?_
    refine rg_put (d := 2) (v := .d (.fl (.bool ((decide ((l.length : Int) ≤ 40)))))) rfl (og rfl (op_assign rfl rfl rfl)) ?_
    refine rg_done rfl ?_
    refine a_ret ?_
    show ∃ ds, ResL _ _ _ ds ∧ RV.of ds = _
    refine ⟨[.fl (.bool ((decide ((l.length : Int) ≤ 40))))], (.cons (.tmp rfl (.d _)) .nil), ?_⟩
    rw [few_y (fun q h => hq q (by omega))]; rfl
end Go.Proofs.YtakmjlpciicaiaaGreatDoor.Wk
