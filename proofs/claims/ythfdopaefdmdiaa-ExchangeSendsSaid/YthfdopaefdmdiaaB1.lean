/- Copies of partners. Conditions: as each theorem names them. -/
import Derived.Test.YthfdopaefdmdiaaAvW
import Derived.Test.YthfdopaefdmdiaaNw
import Derived.Test.YthfdopaefdmdiaaTy
set_option linter.unusedSimpArgs false
set_option linter.unusedVariables false
namespace Go.Proofs.Ythfdopaefdmdiaa.Wk
open Go Go.RowKit Go.Proofs.Ythfdopaefdmdiaa.Av
theorem ne_self_b (a : Int) : (a != a) = false := by simp
theorem ix_eq {α : Type} [Inhabited α] {l : List α} {i : Nat} (h : i < l.length) : l[i] = ix l i := by
  have := ix_get h
  rw [List.getElem?_eq_getElem h] at this
  injection this
theorem ix_mem {α : Type} [Inhabited α] {l : List α} {k : Nat} (h : k < l.length) : ix l k ∈ l := by rw [← ix_eq h]; exact List.getElem_mem h
theorem mem_ix {α : Type} [Inhabited α] {l : List α} {x : α} (h : x ∈ l) : ∃ k, k < l.length ∧ ix l k = x := by
  obtain ⟨j, hj, he⟩ := List.mem_iff_getElem.1 h
  exact ⟨j, hj, by rw [← ix_eq hj]; exact he⟩
theorem any_at {α : Type} [Inhabited α] {p : α → Bool} {l : List α} {k : Nat} (hk : k < l.length) (hp : p (ix l k) = true) : l.any p = true := by
  rw [List.any_eq_true]; exact ⟨_, ix_mem hk, hp⟩
theorem any_no {α : Type} [Inhabited α] {p : α → Bool} {l : List α} (h : ∀ q, q < l.length → p (ix l q) = false) : l.any p = false := by
  rw [List.any_eq_false]
  intro x hx
  obtain ⟨k, hk, he⟩ := mem_ix hx
  rw [← he, h k hk]; simp
theorem all_no {α : Type} [Inhabited α] {p : α → Bool} {l : List α} {k : Nat} (hk : k < l.length) (h : p (ix l k) = false) : l.all p = false := by
  rw [List.all_eq_false]; exact ⟨_, ix_mem hk, by rw [h]; simp⟩
theorem all_yes {α : Type} [Inhabited α] {p : α → Bool} {l : List α} (h : ∀ q, q < l.length → p (ix l q) = true) : l.all p = true := by
  rw [List.all_eq_true]
  intro x hx
  obtain ⟨k, hk, he⟩ := mem_ix hx
  rw [← he]; exact h k hk










theorem tD_same {α : Type} [Inhabited α] {e : α → List DV} {l : List α} {k : Nat} (h : k < l.length) {y : List OC} (hy : y = (e (ix l k)).map OC.dv) : (tD e l).set k y = tD e l := by
  apply List.ext_getElem?
  intro i
  rw [List.getElem?_set]
  by_cases hi : k = i
  · subst hi
    rw [if_pos rfl, if_pos (by rw [tD_len]; exact h), tD_at h, hy]
  · rw [if_neg hi]

def pd (seq : Int) (x : Fil) : Bool := decide (x.seq ≤ seq)
def dlF (seq : Int) (l : List Fil) (n : Nat) : List Fil := (l.take n).filter fun x => !(pd seq x)
def rwF (seq : Int) (l : List Fil) (n : Nat) : List Fil := dlF seq l n ++ l.drop (dlF seq l n).length
def iF (seq : Int) (l : List Fil) : Int := match l.findIdx? (pd seq) with
  | some i => i
  | none => -1
def akP (p : Ptn) (seq : Int) : Ptn := bif (decide (seq < 0) || decide (p.out ≤ seq)) then p else ⟨p.name, p.out, p.inn, dlF seq p.wait p.wait.length, p.ours, p.theirs⟩
def akE (p : Ptn) (seq : Int) : Int := bif (decide (seq < 0) || decide (p.out ≤ seq)) then 31 else 0
def hvB (l : List Rec) : Bool := decide (1100 < (l.length : Int)) || l.any fun x => decide (300 < (x.key.size : Int))
def sm (l : List Fil) : Nat → Int
  | 0 => 0
  | k + 1 => sm l k + ((ix l k).recs.length : Int)
def gb (l : List Fil) (k : Nat) : Bool := decide (2000 < sm l (k + 1)) || hvB (ix l k).recs
def grW (l : List Fil) : Bool := (List.range l.length).any (gb l)
theorem gr_at {l : List Fil} {k : Nat} (hk : k < l.length) (h : gb l k = true) : grW l = true := List.any_eq_true.2 ⟨k, List.mem_range.2 hk, h⟩
theorem gr_no {l : List Fil} (h : ∀ q, q < l.length → gb l q = false) : grW l = false := List.any_eq_false.2 fun q hq => by rw [h q (List.mem_range.1 hq)]; simp
def grB (p : Ptn) : Bool := ((hvB p.ours || hvB p.theirs) || decide (40 < (p.wait.length : Int))) || grW p.wait
theorem hv_l {l : List Rec} (h : hvB l = false) : l.length ≤ 1100 := by
  unfold hvB at h
  simp only [Bool.or_eq_false_iff, decide_eq_false_iff_not] at h
  omega
theorem sm_in {l : List Fil} : ∀ k, 0 ≤ sm l k
  | 0 => Int.le_refl _
  | k + 1 => by
    have := sm_in (l := l) k
    simp only [sm]; omega
theorem sm_le {l : List Fil} {k : Nat} (hk : k < l.length) (hq : ∀ q, q < k → gb l q = false) : sm l k ≤ 2000 := by
  cases k with
  | zero => show (0 : Int) ≤ 2000; omega
  | succ k =>
    have h := hq k (by omega)
    unfold gb at h
    simp only [Bool.or_eq_false_iff, decide_eq_false_iff_not] at h
    omega
structure okP (p : Ptn) : Prop where
  o : p.ours.length ≤ 1100
  t : p.theirs.length ≤ 1100
  w : p.wait.length ≤ 40
  r : ∀ x ∈ p.wait, x.recs.length ≤ 1100
theorem grB_f {p : Ptn} (h : grB p = false) : okP p := by
  unfold grB at h
  simp only [Bool.or_eq_false_iff, decide_eq_false_iff_not] at h
  obtain ⟨⟨⟨h1, h2⟩, h3⟩, h4⟩ := h
  refine ⟨hv_l h1, hv_l h2, by omega, fun x hx => ?_⟩
  obtain ⟨q, hq, rfl⟩ := mem_ix hx
  unfold grW at h4
  have := List.any_eq_false.1 h4 q (List.mem_range.2 hq)
  unfold gb at this
  simp only [Bool.or_eq_true, not_or, Bool.not_eq_true] at this
  exact hv_l this.2

set_option maxHeartbeats 4000000 in
set_option maxRecDepth 100000 in
theorem cloF (l : List Fil) (hl : l.length ≤ 2000) : CtrO Try.prog 49 [.sl 4 (List.map eFil l)] (.tr 27 4 (tD eFil l)) := by
  refine ctrO (n := 8) (rs := #[.tmp 2]) (L := [(0, .d (.sl 4 (List.map eFil l)))]) Try.func49 rfl rfl rfl rfl rfl (fun w0 U0 => ?_)
  refine a_rseq ?_
  refine rg_put (d := 2) (v := .d (.fl (.slice none 0 0))) rfl (og rfl (op_assign rfl rfl rfl)) ?_
  refine rg_done rfl ?_
  refine a_seq ?_
  refine a_rseq ?_
  refine rg_put (d := 3) (v := .d (.sl 4 (List.map eFil l))) rfl (og rfl (op_move rfl rfl rfl)) ?_
  refine rg_isnil rfl rfl rfl Try.underlying22 rfl rfl rfl (fun bh1 nh1 => ?_)
  refine rg_done rfl ?_
  refine a_cond rfl (fun h2 => ?_) (fun h2 => ?_)
  · skip
    refine a_rseq ?_
    refine rg_put (d := 2) (v := .d (.fl (.slice none 0 0))) rfl (og rfl (op_assign rfl rfl rfl)) ?_
    refine rg_done rfl ?_
    have hnil : l = [] := by simpa using nh1 h2
    subst hnil
    refine a_imp (imp_nilT 2 101 27 4 rfl rfl) ?_
    refine a_ret ?_
    show ∃ rv, _ = #[rv] ∧ ResO _ _ rv _
    exact ⟨_, rfl, .tmp rfl rfl⟩
  · skip
    refine a_skip ?_
    show A _ _ _ _ _ _ _
    refine a_rseq ?_
    refine rg_nam (d := 5) (v := .ow 102) (m := 102) (nw := [(102, .tr 27 4 (tD eFil []))]) rfl (og rfl (of_eff (op_slice0 102 rfl Try.underlying22 ti27 rfl) rfl)) rfl ?_
    refine rg_put (d := 6) (v := .d (.sl 4 (List.map eFil l))) rfl (og rfl (op_move rfl rfl rfl)) ?_
    refine rg_nam (d := 7) (v := .ow 103) (m := 103) (nw := [(103, .tr 27 4 (tD eFil ([] ++ l))), (102, .no)]) rfl (og rfl (of_eff (s_append_td 103 rfl Try.underlying22 ti27 rfl rfl rfl rfl rfl (.d _) (by simp only [List.length_nil]; omega) rfl) rfl)) rfl ?_
    refine rg_put (d := 2) (v := .ow 103) rfl (og rfl (op_assign rfl rfl rfl)) ?_
    refine rg_done rfl ?_
    refine a_ret ?_
    show ∃ rv, _ = #[rv] ∧ ResO _ _ rv _
    exact ⟨_, rfl, .tmp rfl rfl⟩
set_option maxHeartbeats 4000000 in
set_option maxRecDepth 100000 in
theorem cloR (l : List Rec) (hl : l.length ≤ 2000) : CtrO Try.prog 36 [.sl 5 (List.map eRec l)] (.tr 48 5 (tD eRec l)) := by
  refine ctrO (n := 8) (rs := #[.tmp 2]) (L := [(0, .d (.sl 5 (List.map eRec l)))]) Try.func36 rfl rfl rfl rfl rfl (fun w0 U0 => ?_)
  refine a_rseq ?_
  refine rg_put (d := 2) (v := .d (.fl (.slice none 0 0))) rfl (og rfl (op_assign rfl rfl rfl)) ?_
  refine rg_done rfl ?_
  refine a_seq ?_
  refine a_rseq ?_
  refine rg_put (d := 3) (v := .d (.sl 5 (List.map eRec l))) rfl (og rfl (op_move rfl rfl rfl)) ?_
  refine rg_isnil rfl rfl rfl Try.underlying23 rfl rfl rfl (fun bh1 nh1 => ?_)
  refine rg_done rfl ?_
  refine a_cond rfl (fun h2 => ?_) (fun h2 => ?_)
  · skip
    refine a_rseq ?_
    refine rg_put (d := 2) (v := .d (.fl (.slice none 0 0))) rfl (og rfl (op_assign rfl rfl rfl)) ?_
    refine rg_done rfl ?_
    have hnil : l = [] := by simpa using nh1 h2
    subst hnil
    refine a_imp (imp_nilT 2 101 48 5 rfl rfl) ?_
    refine a_ret ?_
    show ∃ rv, _ = #[rv] ∧ ResO _ _ rv _
    exact ⟨_, rfl, .tmp rfl rfl⟩
  · skip
    refine a_skip ?_
    show A _ _ _ _ _ _ _
    refine a_rseq ?_
    refine rg_nam (d := 5) (v := .ow 102) (m := 102) (nw := [(102, .tr 48 5 (tD eRec []))]) rfl (og rfl (of_eff (op_slice0 102 rfl Try.underlying23 ti48 rfl) rfl)) rfl ?_
    refine rg_put (d := 6) (v := .d (.sl 5 (List.map eRec l))) rfl (og rfl (op_move rfl rfl rfl)) ?_
    refine rg_nam (d := 7) (v := .ow 103) (m := 103) (nw := [(103, .tr 48 5 (tD eRec ([] ++ l))), (102, .no)]) rfl (og rfl (of_eff (s_append_td 103 rfl Try.underlying23 ti48 rfl rfl rfl rfl rfl (.d _) (by simp only [List.length_nil]; omega) rfl) rfl)) rfl ?_
    refine rg_put (d := 2) (v := .ow 103) rfl (og rfl (op_assign rfl rfl rfl)) ?_
    refine rg_done rfl ?_
    refine a_ret ?_
    show ∃ rv, _ = #[rv] ∧ ResO _ _ rv _
    exact ⟨_, rfl, .tmp rfl rfl⟩
set_option maxHeartbeats 4000000 in
set_option maxRecDepth 100000 in
theorem freshF (x : Fil) (h1 : x.recs.length ≤ 1100) : CtrO Try.prog 24 [.ag (eFil x)] (.sv [.dv (.fl (.string x.fr)), .dv (.fl (.string x.to)), .dv (.fl (.int .i64 x.seq)), .ow 48 5 (List.map eRec x.recs)]) := by
  refine ctrO (n := 8) (rs := #[.cell 2 27]) (L := [(0, .d (.ag (eFil x)))]) Try.func24 rfl rfl rfl rfl rfl (fun w0 U0 => ?_)
  refine a_rseq ?_
  refine rg_nam (d := 1) (v := .pt 101 0) (m := 101) (nw := [(101, .bx 27 (eFil x))]) rfl (og rfl (of_eff (op_box 101 rfl rfl rfl rfl) rfl)) rfl ?_
  refine rg_nam (d := 2) (v := .pt 102 0) (m := 102) (nw := [(102, .bx 27 ([.fl (.string (⟨#[]⟩)), .fl (.string (⟨#[]⟩)), .fl (.int .i64 0), .fl (.slice none 0 0)]))]) rfl (og rfl (of_eff (s_alloc 102 rfl ti27 (by kernel_rfl) rfl) rfl)) rfl ?_
  refine rg_done rfl ?_
  refine a_rseq ?_
  refine rg_imp (imp_bt 101 rfl) ?_
  refine rg_imp (imp_bt 102 rfl) ?_
  refine rg_put (d := 3) (v := .pt 101 3) rfl (og rfl (of_eff (s_field_pt rfl Try.underlying27 rfl ti23 rfl rfl rfl) rfl)) ?_
  refine rg_put (d := 4) (v := .d (.sl 5 (List.map eRec x.recs))) rfl (og rfl (op_load_bt rfl Try.underlying23 rfl rfl rfl rfl rfl)) ?_
  refine rg_nam (d := 5) (v := .ow 103) (m := 103) (nw := [(103, .tr 48 5 (tD eRec x.recs))]) rfl (og rfl (of_eff (op_callO 103 rfl Try.func36 nm36 rfl (.cons rfl (.d _) .nil) (cloR x.recs (by omega)) rfl) rfl)) rfl ?_
  refine rg_put (d := 6) (v := .pt 101 3) rfl (og rfl (of_eff (s_field_pt rfl Try.underlying27 rfl ti23 rfl rfl rfl) rfl)) ?_
  refine rg_sto (nw := [(101, .bt 27 [.dv (.fl (.string x.fr)), .dv (.fl (.string x.to)), .dv (.fl (.int .i64 x.seq)), .ow 48 5 (List.map eRec x.recs)]), (103, .no)]) rfl (og rfl (of_eff (op_store_bt rfl rfl ti23 rfl rfl rfl (.tr rfl) rfl rfl rfl) rfl)) ?_
  refine rg_done rfl ?_
  refine a_rseq ?_
  refine rg_nam (d := 7) (v := .ow 104) (m := 104) (nw := [(104, .sv [.dv (.fl (.string x.fr)), .dv (.fl (.string x.to)), .dv (.fl (.int .i64 x.seq)), .ow 48 5 (List.map eRec x.recs)]), (101, .no)]) rfl (og rfl (of_eff (op_move_bt 104 rfl Try.underlying27 rfl ti27 rfl rfl rfl rfl) rfl)) rfl ?_
  refine rg_sto (nw := [(102, .bt 27 [.dv (.fl (.string x.fr)), .dv (.fl (.string x.to)), .dv (.fl (.int .i64 x.seq)), .ow 48 5 (List.map eRec x.recs)]), (104, .no)]) rfl (og rfl (of_eff (op_store_bt rfl rfl ti27 rfl rfl rfl (.sv rfl) rfl rfl rfl) rfl)) ?_
  refine rg_done rfl ?_
  refine a_ret ?_
  show ∃ rv, _ = #[rv] ∧ ResO _ _ rv _
  exact ⟨_, rfl, .cell rfl rfl Try.underlying27 rfl ti27 rfl⟩
theorem copyF (x : Fil) (h1 : x.recs.length ≤ 1100) : Ctr Try.prog 24 [.ag (eFil x)] (.d (.ag (eFil x))) := ctr_of_O (freshF x h1) rfl
set_option maxHeartbeats 4000000 in
set_option maxRecDepth 100000 in
theorem lisF (l : List Fil) (hl : l.length ≤ 1000) (hz : ∀ x ∈ l, x.recs.length ≤ 1100) : CtrO Try.prog 40 [.sl 4 (List.map eFil l), .fn 24 []] (.tr 27 4 (tD eFil l)) := by
  refine ctrO (n := 25) (rs := #[.tmp 4]) (L := [(0, .d (.sl 4 (List.map eFil l))), (1, .d (.fn 24 []))]) Try.func40 rfl rfl rfl rfl rfl (fun w0 U0 => ?_)
  refine a_rseq ?_
  refine rg_put (d := 4) (v := .d (.fl (.slice none 0 0))) rfl (og rfl (op_assign rfl rfl rfl)) ?_
  refine rg_done rfl ?_
  refine a_rseq ?_
  refine rg_put (d := 7) (v := .d (.sl 4 (List.map eFil l))) rfl (og rfl (op_move rfl rfl rfl)) ?_
  refine rg_nam (d := 8) (v := .ow 101) (m := 101) (nw := [(101, .tr 27 4 (tD eFil l))]) rfl (og rfl (of_eff (op_callO 101 rfl Try.func49 nm49 rfl (.cons rfl (.d _) .nil) (cloF l (by omega)) rfl) rfl)) rfl ?_
  refine rg_put (d := 5) (v := .ow 101) rfl (og rfl (op_assign rfl rfl rfl)) ?_
  refine rg_done rfl ?_
  refine a_seq ?_
  refine a_rseq ?_
  refine rg_put (d := 9) (v := .ow 101) rfl (og rfl (op_move rfl rfl rfl)) ?_
  refine rg_put (d := 10) (v := .d (.fl (.int .i64 (((l).length : Int))))) rfl (og rfl (op_len_tr rfl Try.underlying22 rfl rfl tD_len rfl)) ?_
  refine rg_put (d := 11) (v := .d (.fl (.int .i64 0))) rfl (og rfl (op_move rfl rfl rfl)) ?_
  refine rg_done rfl ?_
  refine a_block ?_
  refine a_loop (ι := Nat) (fun k => SS [(0, .d (.sl 4 (List.map eFil l))), (1, .d (.fn 24 [])), (4, .d (.fl (.slice none 0 0))), (5, .ow 101), (10, .d (.fl (.int .i64 (((l).length : Int))))), (11, .d (.fl (.int .i64 (k : Int))))] [(101, .tr 27 4 (tD eFil l))]) (fun k => k ≤ l.length) (fun k => l.length - k) 0 (by omega) (imp_forget rfl ⟨rfl, rfl, rfl, (by first | rfl | exact ci (by omega) | exact ci (by simp) | exact cd (by simp) | simp), rfl, (by first | rfl | exact ci (by omega) | exact ci (by simp) | exact cd (by simp) | simp), trivial⟩ ⟨(by first | rfl | simp), trivial⟩) (fun k hok => ?_)
  have hk := hok
  refine a_rseq ?_
  refine rg_put (d := 12) (v := .d (.fl (.bool ((decide ((k : Int) < ((l).length : Int))))))) rfl (og rfl (op_bin rfl rfl rfl (b_lss _ _ _ _) rfl)) ?_
  refine rg_done rfl ?_
  refine a_seq ?_
  refine a_cond rfl (fun h1 => ?_) (fun h1 => ?_)
  · skip
    have h2 := t_dec h1
    refine a_skip ?_
    show A _ _ _ _ _ _ _
    refine a_seq ?_
    refine a_block ?_
    refine a_rseq ?_
    refine rg_put (d := 13) (v := .d (.fl (.int .i64 (k : Int)))) rfl (og rfl (op_move rfl rfl rfl)) ?_
    refine rg_put (d := 6) (v := .d (.fl (.int .i64 (k : Int)))) rfl (og rfl (op_assign rfl rfl rfl)) ?_
    refine rg_done rfl ?_
    refine a_region ?_
    refine rg_put (d := 14) (v := .ow 101) rfl (og rfl (op_move rfl rfl rfl)) ?_
    refine rg_put (d := 15) (v := .d (.fl (.int .i64 (k : Int)))) rfl (og rfl (op_move rfl rfl rfl)) ?_
    refine rg_put (d := 16) (v := .d (.fn 24 [])) rfl (og rfl (op_move rfl rfl rfl)) ?_
    refine rg_put (d := 17) (v := .ow 101) rfl (og rfl (op_move rfl rfl rfl)) ?_
    refine rg_put (d := 18) (v := .d (.fl (.int .i64 (k : Int)))) rfl (og rfl (op_move rfl rfl rfl)) ?_
    refine rg_put (d := 19) (v := .pe 101 4 k 0) rfl (og rfl (op_index_tr rfl Try.underlying22 ti27 rfl rfl rfl (get_lt (tD_at (by omega))) rfl)) ?_
    refine rg_put (d := 20) (v := .d (.ag (eFil (ix l k)))) rfl (og rfl (of_eff (op_load_pes rfl Try.underlying27 rfl ti27 rfl rfl (tD_at (by omega)) rfl rfl rfl) rfl)) ?_
    refine rg_put (d := 21) (v := .d (.ag (eFil (ix l k)))) rfl (og rfl (op_callV rfl rfl ⟨_, Try.func24, nm24, rfl⟩ (.cons rfl (.d _) .nil) (copyF (ix l k) (hz _ (ix_mem (by omega)))) rfl)) ?_
    refine rg_put (d := 22) (v := .pe 101 4 k 0) rfl (og rfl (op_index_tr rfl Try.underlying22 ti27 rfl rfl rfl (get_lt (tD_at (by omega))) rfl)) ?_
    refine rg_sto (nw := [(101, .tr 27 4 (((tD eFil l).set k [.dv (.fl (.string ((ix l k).fr))), .dv (.fl (.string ((ix l k).to))), .dv (.fl (.int .i64 ((ix l k).seq))), .dv (.sl 5 (List.map eRec ((ix l k).recs)))])))]) rfl (og rfl (of_eff (op_store_pe rfl rfl ti27 rfl rfl (tD_at (by omega)) rfl (.d rfl) rfl rfl rfl) rfl)) ?_
    refine rg_done rfl ?_
    show A _ _ _ _ _ _ _
    refine a_region ?_
    refine rg_put (d := 23) (v := .d (.fl (.int .i64 (((k : Int) + 1))))) rfl (og rfl (op_bin rfl rfl rfl (fun x y w => b_add64 _ _ _ x y w (by omega)) rfl)) ?_
    refine rg_put (d := 11) (v := .d (.fl (.int .i64 (((k : Int) + 1))))) rfl (og rfl (op_move rfl rfl rfl)) ?_
    refine rg_done rfl ?_
    show ∃ i, _ ∧ _ ∧ Imp _ _ _ _ _
    refine ⟨k + 1, (by omega), by omega, imp_forget rfl ⟨rfl, rfl, rfl, rfl, rfl, (by first | rfl | exact ci (by omega) | exact ci (by simp) | exact cd (by simp) | simp), trivial⟩ ⟨(congrArg (fun z => Ob.tr 27 4 z) (tD_same (by omega) rfl)), trivial⟩⟩
  · skip
    have h3 := f_dec h1
    refine a_exit ?_
    show A _ _ _ _ _ _ _
    refine a_rseq ?_
    refine rg_put (d := 24) (v := .ow 101) rfl (og rfl (op_move rfl rfl rfl)) ?_
    refine rg_put (d := 4) (v := .ow 101) rfl (og rfl (op_assign rfl rfl rfl)) ?_
    refine rg_done rfl ?_
    refine a_ret ?_
    show ∃ rv, _ = #[rv] ∧ ResO _ _ rv _
    exact ⟨_, rfl, .tmp rfl rfl⟩
set_option maxHeartbeats 4000000 in
set_option maxRecDepth 100000 in
theorem frsF (l : List Fil) (hl : l.length ≤ 1000) (hz : ∀ x ∈ l, x.recs.length ≤ 1100) : CtrO Try.prog 29 [.sl 4 (List.map eFil l)] (.tr 27 4 (tD eFil l)) := by
  refine ctrO (n := 5) (rs := #[.tmp 2]) (L := [(0, .d (.sl 4 (List.map eFil l)))]) Try.func29 rfl rfl rfl rfl rfl (fun w0 U0 => ?_)
  refine a_rseq ?_
  refine rg_put (d := 2) (v := .d (.fl (.slice none 0 0))) rfl (og rfl (op_assign rfl rfl rfl)) ?_
  refine rg_done rfl ?_
  refine a_rseq ?_
  refine rg_put (d := 3) (v := .d (.sl 4 (List.map eFil l))) rfl (og rfl (op_move rfl rfl rfl)) ?_
  refine rg_nam (d := 4) (v := .ow 101) (m := 101) (nw := [(101, .tr 27 4 (tD eFil l))]) rfl (og rfl (of_eff (op_callO 101 rfl Try.func40 nm40 rfl (.cons rfl (.d _) (.cons rfl (.d _) .nil)) (lisF l hl hz) rfl) rfl)) rfl ?_
  refine rg_put (d := 2) (v := .ow 101) rfl (og rfl (op_assign rfl rfl rfl)) ?_
  refine rg_done rfl ?_
  refine a_ret ?_
  show ∃ rv, _ = #[rv] ∧ ResO _ _ rv _
  exact ⟨_, rfl, .tmp rfl rfl⟩
set_option maxHeartbeats 4000000 in
set_option maxRecDepth 100000 in
theorem freshP (p : Ptn) (hp : okP p) : CtrO Try.prog 20 [.ag (ePt p)] (.sv [.dv (.fl (.string p.name)), .dv (.fl (.int .i64 p.out)), .dv (.fl (.int .i64 p.inn)), .ow 27 4 (List.map eFil p.wait), .ow 48 5 (List.map eRec p.ours), .ow 48 5 (List.map eRec p.theirs)]) := by
  refine ctrO (n := 16) (rs := #[.cell 2 25]) (L := [(0, .d (.ag (ePt p)))]) Try.func20 rfl rfl rfl rfl rfl (fun w0 U0 => ?_)
  refine a_rseq ?_
  refine rg_nam (d := 1) (v := .pt 101 0) (m := 101) (nw := [(101, .bx 25 (ePt p))]) rfl (og rfl (of_eff (op_box 101 rfl rfl rfl rfl) rfl)) rfl ?_
  refine rg_nam (d := 2) (v := .pt 102 0) (m := 102) (nw := [(102, .bx 25 ([.fl (.string (⟨#[]⟩)), .fl (.int .i64 0), .fl (.int .i64 0), .fl (.slice none 0 0), .fl (.slice none 0 0), .fl (.slice none 0 0)]))]) rfl (og rfl (of_eff (s_alloc 102 rfl ti25 (by kernel_rfl) rfl) rfl)) rfl ?_
  refine rg_done rfl ?_
  refine a_rseq ?_
  refine rg_imp (imp_bt 101 rfl) ?_
  refine rg_imp (imp_bt 102 rfl) ?_
  refine rg_put (d := 3) (v := .pt 101 3) rfl (og rfl (of_eff (s_field_pt rfl Try.underlying25 rfl ti22 rfl rfl rfl) rfl)) ?_
  refine rg_put (d := 4) (v := .d (.sl 4 (List.map eFil p.wait))) rfl (og rfl (op_load_bt rfl Try.underlying22 rfl rfl rfl rfl rfl)) ?_
  refine rg_nam (d := 5) (v := .ow 103) (m := 103) (nw := [(103, .tr 27 4 (tD eFil p.wait))]) rfl (og rfl (of_eff (op_callO 103 rfl Try.func29 nm29 rfl (.cons rfl (.d _) .nil) (frsF p.wait (by have := hp.w; omega) hp.r) rfl) rfl)) rfl ?_
  refine rg_put (d := 6) (v := .pt 101 3) rfl (og rfl (of_eff (s_field_pt rfl Try.underlying25 rfl ti22 rfl rfl rfl) rfl)) ?_
  refine rg_sto (nw := [(101, .bt 25 [.dv (.fl (.string p.name)), .dv (.fl (.int .i64 p.out)), .dv (.fl (.int .i64 p.inn)), .ow 27 4 (List.map eFil p.wait), .dv (.sl 5 (List.map eRec p.ours)), .dv (.sl 5 (List.map eRec p.theirs))]), (103, .no)]) rfl (og rfl (of_eff (op_store_bt rfl rfl ti22 rfl rfl rfl (.tr rfl) rfl rfl rfl) rfl)) ?_
  refine rg_done rfl ?_
  refine a_rseq ?_
  refine rg_put (d := 7) (v := .pt 101 4) rfl (og rfl (of_eff (s_field_pt rfl Try.underlying25 rfl ti23 rfl rfl rfl) rfl)) ?_
  refine rg_put (d := 8) (v := .d (.sl 5 (List.map eRec p.ours))) rfl (og rfl (op_load_bt rfl Try.underlying23 rfl rfl rfl rfl rfl)) ?_
  refine rg_nam (d := 9) (v := .ow 104) (m := 104) (nw := [(104, .tr 48 5 (tD eRec p.ours))]) rfl (og rfl (of_eff (op_callO 104 rfl Try.func36 nm36 rfl (.cons rfl (.d _) .nil) (cloR p.ours (by have := hp.o; have := hp.t; omega)) rfl) rfl)) rfl ?_
  refine rg_put (d := 10) (v := .pt 101 4) rfl (og rfl (of_eff (s_field_pt rfl Try.underlying25 rfl ti23 rfl rfl rfl) rfl)) ?_
  refine rg_sto (nw := [(101, .bt 25 [.dv (.fl (.string p.name)), .dv (.fl (.int .i64 p.out)), .dv (.fl (.int .i64 p.inn)), .ow 27 4 (List.map eFil p.wait), .ow 48 5 (List.map eRec p.ours), .dv (.sl 5 (List.map eRec p.theirs))]), (104, .no)]) rfl (og rfl (of_eff (op_store_bt rfl rfl ti23 rfl rfl rfl (.tr rfl) rfl rfl rfl) rfl)) ?_
  refine rg_done rfl ?_
  refine a_rseq ?_
  refine rg_put (d := 11) (v := .pt 101 5) rfl (og rfl (of_eff (s_field_pt rfl Try.underlying25 rfl ti23 rfl rfl rfl) rfl)) ?_
  refine rg_put (d := 12) (v := .d (.sl 5 (List.map eRec p.theirs))) rfl (og rfl (op_load_bt rfl Try.underlying23 rfl rfl rfl rfl rfl)) ?_
  refine rg_nam (d := 13) (v := .ow 105) (m := 105) (nw := [(105, .tr 48 5 (tD eRec p.theirs))]) rfl (og rfl (of_eff (op_callO 105 rfl Try.func36 nm36 rfl (.cons rfl (.d _) .nil) (cloR p.theirs (by have := hp.o; have := hp.t; omega)) rfl) rfl)) rfl ?_
  refine rg_put (d := 14) (v := .pt 101 5) rfl (og rfl (of_eff (s_field_pt rfl Try.underlying25 rfl ti23 rfl rfl rfl) rfl)) ?_
  refine rg_sto (nw := [(101, .bt 25 [.dv (.fl (.string p.name)), .dv (.fl (.int .i64 p.out)), .dv (.fl (.int .i64 p.inn)), .ow 27 4 (List.map eFil p.wait), .ow 48 5 (List.map eRec p.ours), .ow 48 5 (List.map eRec p.theirs)]), (105, .no)]) rfl (og rfl (of_eff (op_store_bt rfl rfl ti23 rfl rfl rfl (.tr rfl) rfl rfl rfl) rfl)) ?_
  refine rg_done rfl ?_
  refine a_rseq ?_
  refine rg_nam (d := 15) (v := .ow 106) (m := 106) (nw := [(106, .sv [.dv (.fl (.string p.name)), .dv (.fl (.int .i64 p.out)), .dv (.fl (.int .i64 p.inn)), .ow 27 4 (List.map eFil p.wait), .ow 48 5 (List.map eRec p.ours), .ow 48 5 (List.map eRec p.theirs)]), (101, .no)]) rfl (og rfl (of_eff (op_move_bt 106 rfl Try.underlying25 rfl ti25 rfl rfl rfl rfl) rfl)) rfl ?_
  refine rg_sto (nw := [(102, .bt 25 [.dv (.fl (.string p.name)), .dv (.fl (.int .i64 p.out)), .dv (.fl (.int .i64 p.inn)), .ow 27 4 (List.map eFil p.wait), .ow 48 5 (List.map eRec p.ours), .ow 48 5 (List.map eRec p.theirs)]), (106, .no)]) rfl (og rfl (of_eff (op_store_bt rfl rfl ti25 rfl rfl rfl (.sv rfl) rfl rfl rfl) rfl)) ?_
  refine rg_done rfl ?_
  refine a_ret ?_
  show ∃ rv, _ = #[rv] ∧ ResO _ _ rv _
  exact ⟨_, rfl, .cell rfl rfl Try.underlying25 rfl ti25 rfl⟩
def fe (f : Nat → Int) : Nat → Nat → Int
  | _, 0 => 0
  | i, n + 1 => if f i = 0 then fe f (i + 1) n else f i
theorem fe_at {f : Nat → Int} {k n : Nat} (h : k < n) : fe f k (n - k) = if f k = 0 then fe f (k + 1) (n - (k + 1)) else f k := by
  rw [show n - k = (n - (k + 1)) + 1 by omega]; rfl
theorem fe_end {f : Nat → Int} {k n : Nat} (h : ¬ k < n) : fe f k (n - k) = 0 := by
  rw [show n - k = 0 by omega]; rfl
theorem fe_no {f : Nat → Int} {k n : Nat} {c : Int} (h : k < n) (hc : c = fe f k (n - k)) (hb : f k = 0) : c = fe f (k + 1) (n - (k + 1)) := by rw [hc, fe_at h, if_pos hb]
theorem fe_yes {f : Nat → Int} {k n : Nat} {c e : Int} (h : k < n) (hc : c = fe f k (n - k)) (hb : f k = e) (he : e ≠ 0) : c = e := by rw [hc, fe_at h, hb, if_neg he]
def fitB (n : Int) : Bool := decide (-1125899906842624 ≤ n) && decide (n ≤ 1125899906842624)
theorem fit_t {n : Int} (h : fitB n = true) : -1125899906842624 ≤ n ∧ n ≤ 1125899906842624 := by
  unfold fitB at h
  simp only [Bool.and_eq_true, decide_eq_true_eq] at h
  exact h
def sI (l : List Int) : Nat → Int
  | 0 => 0
  | k + 1 => sI l k + ix l k
theorem sI_in {l : List Int} : ∀ k, (∀ q, q < k → fitB (ix l q) = true) → -(1125899906842624 * (k : Int)) ≤ sI l k ∧ sI l k ≤ 1125899906842624 * (k : Int)
  | 0, _ => by simp [sI]
  | k + 1, h => by
    have ih := sI_in k (fun q hq => h q (by omega))
    have h1 := fit_t (h k (by omega))
    simp only [sI]
    omega
def tot (l : List Int) : Int × Int := bif l.all fitB then (bif fitB (sI l l.length) then (sI l l.length, 0) else (0, 13)) else (0, 13)
theorem tot_bad {l : List Int} {k : Nat} (hk : k < l.length) (h : fitB (ix l k) = false) : tot l = (0, 13) := by unfold tot; rw [all_no hk h]; rfl
theorem tot_end {l : List Int} (hq : ∀ q, q < l.length → fitB (ix l q) = true) : tot l = bif fitB (sI l l.length) then (sI l l.length, 0) else (0, 13) := by unfold tot; rw [all_yes hq]; rfl
def cF (x : Int) : Bool := decide (33 ≤ x) && decide (x ≤ 126)
theorem cF_no {x : Int} (h : x ≤ 32 ∨ 126 < x) : cF x = false := by simp only [cF, Bool.and_eq_false_iff, decide_eq_false_iff_not]; omega
theorem cF_yes {x : Int} (h : 33 ≤ x ∧ x ≤ 126) : cF x = true := by simp [cF]; omega
def Fldp (s : ByteArray) : Prop := ∀ q, q < s.size → cF ((bt s q).toNat : Int) = true
noncomputable def fldB (s : ByteArray) : Bool := (by classical exact decide (Fldp s)) && !(sEq s ⟨#[]⟩)
theorem fld_no {s : ByteArray} {k : Nat} (hk : k < s.size) (h : cF ((bt s k).toNat : Int) = false) : fldB s = false := by
  unfold fldB
  rw [@decide_eq_false _ (Classical.propDecidable _) (fun hp : Fldp s => by have := hp k hk; rw [h] at this; cases this)]; rfl
theorem fld_yes {s : ByteArray} (h : ∀ q, q < s.size → cF ((bt s q).toNat : Int) = true) : fldB s = !(sEq s ⟨#[]⟩) := by
  unfold fldB
  rw [@decide_eq_true _ (Classical.propDecidable _) (show Fldp s from h)]; rfl
def wd (k : Int) : ByteArray := bif k == 1 then ⟨#[99, 104, 97, 114, 103, 101]⟩ else bif k == 2 then ⟨#[99, 111, 114, 114, 101, 99, 116]⟩ else bif k == 3 then ⟨#[114, 101, 106, 101, 99, 116]⟩ else bif k == 4 then ⟨#[112, 97, 121]⟩ else ⟨#[]⟩
theorem wd_e (k : Int) : sEq (wd k) ⟨#[]⟩ = !(decide (1 ≤ k) && decide (k ≤ 4)) := by
  by_cases h1 : k = 1
  · subst h1; decide
  by_cases h2 : k = 2
  · subst h2; decide
  by_cases h3 : k = 3
  · subst h3; decide
  by_cases h4 : k = 4
  · subst h4; decide
  have e1 : (k == 1) = false := by simpa using h1
  have e2 : (k == 2) = false := by simpa using h2
  have e3 : (k == 3) = false := by simpa using h3
  have e4 : (k == 4) = false := by simpa using h4
  unfold wd
  rw [e1, e2, e3, e4]
  simp only [cond_false]
  have : (decide (1 ≤ k) && decide (k ≤ 4)) = false := by
    rw [Bool.and_eq_false_iff, decide_eq_false_iff_not, decide_eq_false_iff_not]; omega
  rw [this]; decide
theorem bneb {a b : Int} {c : Bool} (h : (a != b) = c) : (a == b) = !c := by rw [← h]; simp [bne]
noncomputable def rcE (x : Rec) : Int := bif sEq (wd x.kind) ⟨#[]⟩ then 1 else bif !(fldB x.key) then 5 else bif decide (256 < (x.key.size : Int)) then 4 else bif (decide (x.time < 0) || decide (68719476736 ≤ x.time)) then 12 else bif x.kind == 3 then (bif (((x.cents != 0) || decide (x.why < 0)) || decide (99 < x.why)) then 1 else 0) else bif !(fitB x.cents) then 13 else bif x.why != 0 then 1 else 0
noncomputable def hdE (f : Fil) : Int := bif (!(Nm.nmB f.fr) || !(Nm.nmB f.to)) then 6 else bif sEq f.fr f.to then 30 else bif (decide (f.seq < 1) || decide (2147483648 < f.seq)) then 31 else 0
theorem hd_0 {f : Fil} (h : hdE f = 0) : 1 ≤ f.seq ∧ f.seq ≤ 2147483648 := by
  unfold hdE at h
  cases h1 : (!(Nm.nmB f.fr) || !(Nm.nmB f.to)) with
  | true => rw [h1, cond_true] at h; omega
  | false =>
    rw [h1, cond_false] at h
    cases h2 : sEq f.fr f.to with
    | true => rw [h2, cond_true] at h; omega
    | false =>
      rw [h2, cond_false] at h
      cases h3 : (decide (f.seq < 1) || decide (2147483648 < f.seq)) with
      | true => rw [h3, cond_true] at h; omega
      | false =>
        simp only [Bool.or_eq_false_iff, decide_eq_false_iff_not] at h3
        omega
def ck (x : Rec) : Bool := (x.kind == 1) || (x.kind == 2)
def cl (l : List Rec) (k : Nat) : List Int := ((l.take k).filter ck).map (·.cents)
theorem cl_y {l : List Rec} {k : Nat} (hk : k < l.length) (h : ck (ix l k) = true) : cl l k ++ [(ix l k).cents] = cl l (k + 1) := by
  unfold cl
  rw [take_ix hk, List.filter_append, List.map_append]
  simp [h]
theorem cl_n {l : List Rec} {k : Nat} (hk : k < l.length) (h : ck (ix l k) = false) : cl l k = cl l (k + 1) := by
  unfold cl
  rw [take_ix hk, List.filter_append, List.map_append]
  simp [h]
theorem cl_len (l : List Rec) (k : Nat) : (cl l k).length ≤ k := by
  unfold cl
  have := List.length_filter_le ck (l.take k)
  rw [List.length_take] at this
  rw [List.length_map]; omega
def sC (l : List Rec) : Nat → Int
  | 0 => 0
  | k + 1 => bif ck (ix l k) then sC l k + (ix l k).cents else sC l k
theorem sC_y {l : List Rec} {k : Nat} (h : ck (ix l k) = true) : sC l k + (ix l k).cents = sC l (k + 1) := by simp only [sC, h, cond_true]
theorem sC_n {l : List Rec} {k : Nat} (h : ck (ix l k) = false) : sC l k = sC l (k + 1) := by simp only [sC, h, cond_false]
theorem sI_app (l : List Int) (x : Int) : ∀ k, k ≤ l.length → sI (l ++ [x]) k = sI l k
  | 0, _ => rfl
  | k + 1, h => by
    simp only [sI]
    rw [sI_app l x k (by omega)]
    congr 1
    unfold ix
    rw [List.getD_eq_getElem?_getD, List.getD_eq_getElem?_getD, List.getElem?_append_left (by omega)]
theorem ix_last (l : List Int) (x : Int) : ix (l ++ [x]) l.length = x := by
  unfold ix
  rw [List.getD_eq_getElem?_getD, List.getElem?_append_right (Nat.le_refl _), Nat.sub_self]; rfl
theorem sI_cl (l : List Rec) : ∀ k, k ≤ l.length → sI (cl l k) (cl l k).length = sC l k
  | 0, _ => rfl
  | k + 1, h => by
    have ih := sI_cl l k (by omega)
    cases hc : ck (ix l k) with
    | false => rw [← cl_n (by omega) hc, ← sC_n hc, ih]
    | true =>
      rw [← cl_y (by omega) hc, ← sC_y hc, List.length_append]
      show sI (cl l k ++ [(ix l k).cents]) (cl l k).length + ix (cl l k ++ [(ix l k).cents]) (cl l k).length = _
      rw [sI_app _ _ _ (Nat.le_refl _), ix_last, ih]
def okc (x : Rec) : Bool := !(ck x) || fitB x.cents
theorem all_fm (l : List Rec) : ((l.filter ck).map (·.cents)).all fitB = l.all okc := by
  induction l with
  | nil => rfl
  | cons a l ih =>
    cases h : ck a with
    | false => rw [List.filter_cons_of_neg (by rw [h]; simp), ih]; simp [okc, h]
    | true => rw [List.filter_cons_of_pos h, List.map_cons, List.all_cons, List.all_cons, ih]; simp [okc, h]
def tfE (l : List Rec) : Int × Int := bif l.all okc then (bif fitB (sC l l.length) then (sC l l.length, 0) else (0, 13)) else (0, 13)
theorem tot_cl (l : List Rec) : tot (cl l l.length) = tfE l := by
  unfold tot tfE
  rw [sI_cl l l.length (Nat.le_refl _), show (cl l l.length).all fitB = l.all okc from by unfold cl; rw [List.take_length]; exact all_fm l]
theorem tfE_bad {l : List Rec} {k : Nat} (hk : k < l.length) (h : okc (ix l k) = false) : tfE l = (0, 13) := by unfold tfE; rw [all_no hk h]; rfl
theorem tfE_end {l : List Rec} (hq : ∀ q, q < l.length → okc (ix l q) = true) : tfE l = bif fitB (sC l l.length) then (sC l l.length, 0) else (0, 13) := by unfold tfE; rw [all_yes hq]; rfl
theorem sC_in {l : List Rec} : ∀ k, (∀ q, q < k → okc (ix l q) = true) → -(1125899906842624 * (k : Int)) ≤ sC l k ∧ sC l k ≤ 1125899906842624 * (k : Int)
  | 0, _ => by simp [sC]
  | k + 1, h => by
    have ih := sC_in k (fun q hq => h q (by omega))
    have h1 := h k (by omega)
    cases hc : ck (ix l k) with
    | false => rw [← sC_n hc]; omega
    | true =>
      rw [← sC_y hc]
      unfold okc at h1
      rw [hc, Bool.not_true, Bool.false_or] at h1
      have := fit_t h1
      omega
noncomputable def rr (l : List Rec) (k : Nat) : Int := rcE (ix l k)
noncomputable def rE (l : List Rec) : Int := fe (rr l) 0 l.length
noncomputable def ckF (f : Fil) : Int := bif hdE f != 0 then hdE f else bif decide (1024 < (f.recs.length : Int)) then 3 else bif rE f.recs != 0 then rE f.recs else (tfE f.recs).2
theorem ck_0 {f : Fil} (h : ckF f = 0) : (1 ≤ f.seq ∧ f.seq ≤ 2147483648) ∧ f.recs.length ≤ 1024 := by
  unfold ckF at h
  cases h1 : (hdE f != 0) with
  | true => rw [h1, cond_true] at h; rw [h] at h1; cases h1
  | false =>
    rw [h1, cond_false] at h
    cases h2 : decide (1024 < (f.recs.length : Int)) with
    | true => rw [h2, cond_true] at h; omega
    | false =>
      have h3 := of_decide_eq_false h2
      exact ⟨hd_0 (f_bne h1), by omega⟩
theorem hv_k {l : List Rec} (h : hvB l = false) : ∀ x ∈ l, x.key.size ≤ 300 := by
  unfold hvB at h
  simp only [Bool.or_eq_false_iff, decide_eq_false_iff_not, List.any_eq_false, decide_eq_true_eq] at h
  intro x hx
  have := h.2 x hx
  omega
noncomputable def rvP (p : Ptn) (f : Fil) : Ptn := bif ckF f != 0 then p else bif !(sEq f.fr p.name) then p else bif decide (p.inn < f.seq) then p else bif !(f.seq == p.inn) then p else bif decide (1024 < (p.theirs.length : Int) + (f.recs.length : Int)) then p else ⟨p.name, p.out, p.inn + 1, p.wait, p.ours, p.theirs ++ f.recs⟩
noncomputable def rvE (p : Ptn) (f : Fil) : Int := bif ckF f != 0 then ckF f else bif !(sEq f.fr p.name) then 30 else bif decide (p.inn < f.seq) then 31 else bif !(f.seq == p.inn) then 0 else bif decide (1024 < (p.theirs.length : Int) + (f.recs.length : Int)) then 3 else 0

end Go.Proofs.Ythfdopaefdmdiaa.Wk
