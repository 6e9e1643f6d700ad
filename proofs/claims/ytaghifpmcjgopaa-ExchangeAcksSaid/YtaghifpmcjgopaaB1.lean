/- Copies of partners; what is deleted from a list. Conditions: as each theorem names them. -/
import Derived.Test.YtaghifpmcjgopaaAvW
import Derived.Test.YtaghifpmcjgopaaTy
set_option linter.unusedSimpArgs false
set_option linter.unusedVariables false
namespace Go.Proofs.Ytaghifpmcjgopaa.Wk
open Go Go.RowKit Go.Proofs.Ytaghifpmcjgopaa.Av
theorem ne_self_b (a : Int) : (a != a) = false := by simp
theorem sEq_eq {a b : ByteArray} (h : sEq a b = true) : a = b := of_decide_eq_true h
theorem sEq_of {a b : ByteArray} (h : a = b) : sEq a b = true := decide_eq_true h
theorem nb {b : Bool} (h : ¬ b = true) : b = false := by cases b <;> simp at h ⊢
theorem nnb {b : Bool} (h : ¬ (!b) = true) : b = true := by cases b <;> simp at h ⊢

theorem ix_eq {α : Type} [Inhabited α] {l : List α} {i : Nat} (h : i < l.length) : l[i] = ix l i := by
  have := ix_get h
  rw [List.getElem?_eq_getElem h] at this
  injection this
theorem ix_mem {α : Type} [Inhabited α] {l : List α} {k : Nat} (h : k < l.length) : ix l k ∈ l := by rw [← ix_eq h]; exact List.getElem_mem h
theorem mem_ix {α : Type} [Inhabited α] {l : List α} {x : α} (h : x ∈ l) : ∃ k, k < l.length ∧ ix l k = x := by
  obtain ⟨j, hj, he⟩ := List.mem_iff_getElem.1 h
  exact ⟨j, hj, by rw [← ix_eq hj]; exact he⟩
theorem fnd_no {α : Type} [Inhabited α] {p : α → Bool} {l : List α} (h : ∀ q, q < l.length → p (ix l q) = false) : l.find? p = none := by
  rw [List.find?_eq_none]
  intro x hx
  obtain ⟨k, hk, he⟩ := mem_ix hx
  rw [← he, h k hk]; simp
theorem fnd_at {α : Type} [Inhabited α] {p : α → Bool} {l : List α} {k : Nat} (hk : k < l.length) (h : ∀ q, q < k → p (ix l q) = false) (hp : p (ix l k) = true) : l.find? p = some (ix l k) := by
  rw [List.find?_eq_some_iff_getElem]
  refine ⟨hp, k, hk, ix_eq hk, fun j hj => ?_⟩
  rw [ix_eq (by omega), h j hj]; rfl
theorem any_at {α : Type} [Inhabited α] {p : α → Bool} {l : List α} {k : Nat} (hk : k < l.length) (hp : p (ix l k) = true) : l.any p = true := by
  rw [List.any_eq_true]; exact ⟨_, ix_mem hk, hp⟩
theorem any_no {α : Type} [Inhabited α] {p : α → Bool} {l : List α} (h : ∀ q, q < l.length → p (ix l q) = false) : l.any p = false := by
  rw [List.any_eq_false]
  intro x hx
  obtain ⟨k, hk, he⟩ := mem_ix hx
  rw [← he, h k hk]; simp
theorem all_no {α : Type} [Inhabited α] {p : α → Bool} {l : List α} {k : Nat} (hk : k < l.length) (h : p (ix l k) = false) : l.all p = false := by
  rw [List.all_eq_false]; exact ⟨_, ix_mem hk, by rw [h]; simp⟩
theorem all_yes {α : Type} [Inhabited α] {p : α → Bool} {l : List α} (h : ∀ q, q < l.length → p (ix l q) = true) : l.all p = true := by
  rw [List.all_eq_true]
  intro x hx
  obtain ⟨k, hk, he⟩ := mem_ix hx
  rw [← he]; exact h k hk










theorem ix_app {α : Type} [Inhabited α] {l m : List α} {q : Nat} (h : l.length ≤ q) : ix (l ++ m) q = ix m (q - l.length) := by
  unfold ix
  rw [List.getD_eq_getElem?_getD, List.getD_eq_getElem?_getD, List.getElem?_append_right h]
theorem ix_drop {α : Type} [Inhabited α] (l : List α) (k q : Nat) : ix (l.drop k) q = ix l (k + q) := by unfold ix; rw [List.getD_eq_getElem?_getD, List.getD_eq_getElem?_getD, List.getElem?_drop]

theorem tD_set {α : Type} {e : α → List DV} {l : List α} {k : Nat} {x : α} {y : List OC} (hy : y = (e x).map OC.dv) : (tD e l).set k y = tD e (l.set k x) := by
  rw [hy]
  unfold tD
  rw [List.map_set, List.map_set]

theorem tD_same {α : Type} [Inhabited α] {e : α → List DV} {l : List α} {k : Nat} (h : k < l.length) {y : List OC} (hy : y = (e (ix l k)).map OC.dv) : (tD e l).set k y = tD e l := by
  apply List.ext_getElem?
  intro i
  rw [List.getElem?_set]
  by_cases hi : k = i
  · subst hi
    rw [if_pos rfl, if_pos (by rw [tD_len]; exact h), tD_at h, hy]
  · rw [if_neg hi]

def pd (seq : Int) (x : Fil) : Bool := decide (x.seq ≤ seq)
def dlF (seq : Int) (l : List Fil) (n : Nat) : List Fil := (l.take n).filter fun x => !(pd seq x)
def rwF (seq : Int) (l : List Fil) (n : Nat) : List Fil := dlF seq l n ++ l.drop (dlF seq l n).length
theorem dlF_y {seq : Int} {l : List Fil} {k : Nat} (hk : k < l.length) (h : pd seq (ix l k) = true) : dlF seq l (k + 1) = dlF seq l k := by
  unfold dlF
  rw [take_ix hk, List.filter_append]
  simp [h]
theorem dlF_n {seq : Int} {l : List Fil} {k : Nat} (hk : k < l.length) (h : pd seq (ix l k) = false) : dlF seq l (k + 1) = dlF seq l k ++ [ix l k] := by
  unfold dlF
  rw [take_ix hk, List.filter_append]
  simp [h]
theorem dlF_len (seq : Int) (l : List Fil) (n : Nat) : (dlF seq l n).length ≤ n := by
  unfold dlF
  have := List.length_filter_le (fun x => !(pd seq x)) (l.take n)
  rw [List.length_take] at this; omega
theorem dlF_all {seq : Int} {l : List Fil} : ∀ n, n ≤ l.length → (∀ q, q < n → pd seq (ix l q) = false) → dlF seq l n = l.take n
  | 0, _, _ => by simp [dlF]
  | n + 1, h, hq => by
    rw [dlF_n (by omega) (hq n (by omega)), dlF_all n (by omega) (fun q h1 => hq q (by omega)), take_ix (by omega)]
theorem rwF_len {seq : Int} {l : List Fil} {n : Nat} (h : n ≤ l.length) : (rwF seq l n).length = l.length := by
  have := dlF_len seq l n
  unfold rwF
  rw [List.length_append, List.length_drop]; omega
theorem rwF_ix {seq : Int} {l : List Fil} {n q : Nat} (h : (dlF seq l n).length ≤ q) : ix (rwF seq l n) q = ix l q := by
  unfold rwF
  rw [ix_app h, ix_drop]; congr 1; omega
theorem rwF_start {seq : Int} {l : List Fil} {k : Nat} (hk : k < l.length) (hq : ∀ q, q < k → pd seq (ix l q) = false) (h : pd seq (ix l k) = true) : rwF seq l (k + 1) = l ∧ (dlF seq l (k + 1)).length = k := by
  have e : dlF seq l (k + 1) = l.take k := (dlF_y hk h).trans (dlF_all k (by omega) hq)
  have el : (l.take k).length = k := by rw [List.length_take]; omega
  unfold rwF
  rw [e, el, List.take_append_drop]; exact ⟨rfl, rfl⟩
theorem rwF_set {seq : Int} {l : List Fil} {n : Nat} (hn : n < l.length) (hk : (dlF seq l n).length < l.length) (h : pd seq (ix l n) = false) : (rwF seq l n).set (dlF seq l n).length (ix l n) = rwF seq l (n + 1) := by
  unfold rwF
  rw [dlF_n hn h, List.set_append_right _ _ (Nat.le_refl _), Nat.sub_self, List.drop_eq_getElem_cons hk, List.set_cons_zero, List.length_append, List.append_assoc]
  rfl
theorem rwF_end (seq : Int) (l : List Fil) (n : Nat) : (rwF seq l n).take (dlF seq l n).length = dlF seq l n := by unfold rwF; rw [List.take_append, List.take_of_length_le (Nat.le_refl _), Nat.sub_self, List.take_zero, List.append_nil]
def iF (seq : Int) (l : List Fil) : Int := match l.findIdx? (pd seq) with
  | some i => i
  | none => -1
theorem iF_at {seq : Int} {l : List Fil} {k : Nat} (hk : k < l.length) (hq : ∀ q, q < k → pd seq (ix l q) = false) (h : pd seq (ix l k) = true) : iF seq l = k := by
  unfold iF
  rw [show l.findIdx? (pd seq) = some k from by
    rw [List.findIdx?_eq_some_iff_getElem]
    refine ⟨hk, by rw [ix_eq hk]; exact h, fun j hj => ?_⟩
    rw [ix_eq (by omega)]
    simpa using hq j hj]
theorem iF_no {seq : Int} {l : List Fil} (hq : ∀ q, q < l.length → pd seq (ix l q) = false) : iF seq l = -1 := by
  unfold iF
  rw [show l.findIdx? (pd seq) = none from by
    rw [List.findIdx?_eq_none_iff]
    intro x hx
    obtain ⟨q, h1, rfl⟩ := mem_ix hx
    exact hq q h1]
theorem iF_none {seq : Int} {l : List Fil} (h : (iF seq l == -1) = true) : dlF seq l l.length = l := by
  have hq : ∀ q, q < l.length → pd seq (ix l q) = false := by
    unfold iF at h
    cases e : l.findIdx? (pd seq) with
    | none =>
      rw [List.findIdx?_eq_none_iff] at e
      exact fun q hq => e _ (ix_mem hq)
    | some i =>
      rw [e] at h
      have : ((i : Int) == -1) = true := h
      have := eq_of_beq this
      omega
  rw [dlF_all _ (Nat.le_refl _) hq, List.take_length]
theorem iF_some {seq : Int} {l : List Fil} (h : (iF seq l == -1) = false) : ∃ k : Nat, iF seq l = (k : Int) ∧ k < l.length ∧ (∀ q, q < k → pd seq (ix l q) = false) ∧ pd seq (ix l k) = true := by
  unfold iF at h ⊢
  cases e : l.findIdx? (pd seq) with
  | none => rw [e] at h; cases h
  | some i =>
    rw [List.findIdx?_eq_some_iff_getElem] at e
    obtain ⟨h1, h2, h3⟩ := e
    refine ⟨i, rfl, h1, fun q hq => ?_, by rw [← ix_eq h1]; exact h2⟩
    have := h3 q hq
    rw [ix_eq (by omega)] at this
    simpa using this
def akP (p : Ptn) (seq : Int) : Ptn := bif (decide (seq < 0) || decide (p.out ≤ seq)) then p else ⟨p.name, p.out, p.inn, dlF seq p.wait p.wait.length, p.ours, p.theirs⟩
def akE (p : Ptn) (seq : Int) : Int := bif (decide (seq < 0) || decide (p.out ≤ seq)) then 31 else 0
theorem ak_bad {p : Ptn} {seq : Int} (h : (decide (seq < 0) || decide (p.out ≤ seq)) = true) : akP p seq = p ∧ akE p seq = 31 := by unfold akP akE; rw [h]; exact ⟨rfl, rfl⟩
theorem ak_ok {p : Ptn} {seq : Int} (h : (decide (seq < 0) || decide (p.out ≤ seq)) = false) : akP p seq = ⟨p.name, p.out, p.inn, dlF seq p.wait p.wait.length, p.ours, p.theirs⟩ ∧ akE p seq = 0 := by unfold akP akE; rw [h]; exact ⟨rfl, rfl⟩
theorem seg1 {l : List Fil} {k : Nat} (hk : k < l.length) : (l.drop k).take (k + 1 - k) = [ix l k] := by
  rw [show k + 1 - k = 1 by omega, List.drop_eq_getElem_cons hk, List.take_succ_cons, List.take_zero, ix_eq hk]
def hvB (l : List Rec) : Bool := decide (1100 < (l.length : Int)) || l.any fun x => decide (300 < (x.key.size : Int))
def sm (l : List Fil) : Nat → Int
  | 0 => 0
  | k + 1 => sm l k + ((ix l k).recs.length : Int)
def gb (l : List Fil) (k : Nat) : Bool := decide (2000 < sm l (k + 1)) || hvB (ix l k).recs
def grW (l : List Fil) : Bool := (List.range l.length).any (gb l)
theorem gr_at {l : List Fil} {k : Nat} (hk : k < l.length) (h : gb l k = true) : grW l = true := List.any_eq_true.2 ⟨k, List.mem_range.2 hk, h⟩
theorem gr_no {l : List Fil} (h : ∀ q, q < l.length → gb l q = false) : grW l = false := List.any_eq_false.2 fun q hq => by rw [h q (List.mem_range.1 hq)]; simp
def grB (p : Ptn) : Bool := ((hvB p.ours || hvB p.theirs) || decide (40 < (p.wait.length : Int))) || grW p.wait
theorem hv_l {l : List Rec} (h : hvB l = false) : l.length ≤ 1100 := by
  unfold hvB at h
  simp only [Bool.or_eq_false_iff, decide_eq_false_iff_not] at h
  omega
theorem sm_in {l : List Fil} : ∀ k, 0 ≤ sm l k
  | 0 => Int.le_refl _
  | k + 1 => by
    have := sm_in (l := l) k
    simp only [sm]; omega
theorem sm_le {l : List Fil} {k : Nat} (hk : k < l.length) (hq : ∀ q, q < k → gb l q = false) : sm l k ≤ 2000 := by
  cases k with
  | zero => show (0 : Int) ≤ 2000; omega
  | succ k =>
    have h := hq k (by omega)
    unfold gb at h
    simp only [Bool.or_eq_false_iff, decide_eq_false_iff_not] at h
    omega
structure okP (p : Ptn) : Prop where
  o : p.ours.length ≤ 1100
  t : p.theirs.length ≤ 1100
  w : p.wait.length ≤ 40
  r : ∀ x ∈ p.wait, x.recs.length ≤ 1100
theorem grB_f {p : Ptn} (h : grB p = false) : okP p := by
  unfold grB at h
  simp only [Bool.or_eq_false_iff, decide_eq_false_iff_not] at h
  obtain ⟨⟨⟨h1, h2⟩, h3⟩, h4⟩ := h
  refine ⟨hv_l h1, hv_l h2, by omega, fun x hx => ?_⟩
  obtain ⟨q, hq, rfl⟩ := mem_ix hx
  unfold grW at h4
  have := List.any_eq_false.1 h4 q (List.mem_range.2 hq)
  unfold gb at this
  simp only [Bool.or_eq_true, not_or, Bool.not_eq_true] at this
  exact hv_l this.2

set_option maxHeartbeats 4000000 in
set_option maxRecDepth 100000 in
theorem cloF (l : List Fil) (hl : l.length ≤ 2000) : CtrO Try.prog 43 [.sl 4 (List.map eFil l)] (.tr 37 4 (tD eFil l)) := by
  refine ctrO (n := 8) (rs := #[.tmp 2]) (L := [(0, .d (.sl 4 (List.map eFil l)))]) Try.func43 rfl rfl rfl rfl rfl (fun w0 U0 => ?_)
  refine a_rseq ?_
  refine rg_put (d := 2) (v := .d (.fl (.slice none 0 0))) rfl (og rfl (op_assign rfl rfl rfl)) ?_
  refine rg_done rfl ?_
  refine a_seq ?_
  refine a_rseq ?_
  refine rg_put (d := 3) (v := .d (.sl 4 (List.map eFil l))) rfl (og rfl (op_move rfl rfl rfl)) ?_
  refine rg_isnil rfl rfl rfl Try.underlying22 rfl rfl rfl (fun bh1 nh1 => ?_)
  refine rg_done rfl ?_
  refine a_cond rfl (fun h2 => ?_) (fun h2 => ?_)
  · skip
    refine a_rseq ?_
    refine rg_put (d := 2) (v := .d (.fl (.slice none 0 0))) rfl (og rfl (op_assign rfl rfl rfl)) ?_
    refine rg_done rfl ?_
    have hnil : l = [] := by simpa using nh1 h2
    subst hnil
    refine a_imp (imp_nilT 2 101 37 4 rfl rfl) ?_
    refine a_ret ?_
    show ∃ rv, _ = #[rv] ∧ ResO _ _ rv _
    exact ⟨_, rfl, .tmp rfl rfl⟩
  · skip
    refine a_skip ?_
    show A _ _ _ _ _ _ _
    refine a_rseq ?_
    refine rg_nam (d := 5) (v := .ow 102) (m := 102) (nw := [(102, .tr 37 4 (tD eFil []))]) rfl (og rfl (of_eff (op_slice0 102 rfl Try.underlying22 ti37 rfl) rfl)) rfl ?_
    refine rg_put (d := 6) (v := .d (.sl 4 (List.map eFil l))) rfl (og rfl (op_move rfl rfl rfl)) ?_
    refine rg_nam (d := 7) (v := .ow 103) (m := 103) (nw := [(103, .tr 37 4 (tD eFil ([] ++ l))), (102, .no)]) rfl (og rfl (of_eff (s_append_td 103 rfl Try.underlying22 ti37 rfl rfl rfl rfl rfl (.d _) (by simp only [List.length_nil]; omega) rfl) rfl)) rfl ?_
    refine rg_put (d := 2) (v := .ow 103) rfl (og rfl (op_assign rfl rfl rfl)) ?_
    refine rg_done rfl ?_
    refine a_ret ?_
    show ∃ rv, _ = #[rv] ∧ ResO _ _ rv _
    exact ⟨_, rfl, .tmp rfl rfl⟩
set_option maxHeartbeats 4000000 in
set_option maxRecDepth 100000 in
theorem cloR (l : List Rec) (hl : l.length ≤ 2000) : CtrO Try.prog 27 [.sl 5 (List.map eRec l)] (.tr 39 5 (tD eRec l)) := by
  refine ctrO (n := 8) (rs := #[.tmp 2]) (L := [(0, .d (.sl 5 (List.map eRec l)))]) Try.func27 rfl rfl rfl rfl rfl (fun w0 U0 => ?_)
  refine a_rseq ?_
  refine rg_put (d := 2) (v := .d (.fl (.slice none 0 0))) rfl (og rfl (op_assign rfl rfl rfl)) ?_
  refine rg_done rfl ?_
  refine a_seq ?_
  refine a_rseq ?_
  refine rg_put (d := 3) (v := .d (.sl 5 (List.map eRec l))) rfl (og rfl (op_move rfl rfl rfl)) ?_
  refine rg_isnil rfl rfl rfl Try.underlying23 rfl rfl rfl (fun bh1 nh1 => ?_)
  refine rg_done rfl ?_
  refine a_cond rfl (fun h2 => ?_) (fun h2 => ?_)
  · skip
    refine a_rseq ?_
    refine rg_put (d := 2) (v := .d (.fl (.slice none 0 0))) rfl (og rfl (op_assign rfl rfl rfl)) ?_
    refine rg_done rfl ?_
    have hnil : l = [] := by simpa using nh1 h2
    subst hnil
    refine a_imp (imp_nilT 2 101 39 5 rfl rfl) ?_
    refine a_ret ?_
    show ∃ rv, _ = #[rv] ∧ ResO _ _ rv _
    exact ⟨_, rfl, .tmp rfl rfl⟩
  · skip
    refine a_skip ?_
    show A _ _ _ _ _ _ _
    refine a_rseq ?_
    refine rg_nam (d := 5) (v := .ow 102) (m := 102) (nw := [(102, .tr 39 5 (tD eRec []))]) rfl (og rfl (of_eff (op_slice0 102 rfl Try.underlying23 ti39 rfl) rfl)) rfl ?_
    refine rg_put (d := 6) (v := .d (.sl 5 (List.map eRec l))) rfl (og rfl (op_move rfl rfl rfl)) ?_
    refine rg_nam (d := 7) (v := .ow 103) (m := 103) (nw := [(103, .tr 39 5 (tD eRec ([] ++ l))), (102, .no)]) rfl (og rfl (of_eff (s_append_td 103 rfl Try.underlying23 ti39 rfl rfl rfl rfl rfl (.d _) (by simp only [List.length_nil]; omega) rfl) rfl)) rfl ?_
    refine rg_put (d := 2) (v := .ow 103) rfl (og rfl (op_assign rfl rfl rfl)) ?_
    refine rg_done rfl ?_
    refine a_ret ?_
    show ∃ rv, _ = #[rv] ∧ ResO _ _ rv _
    exact ⟨_, rfl, .tmp rfl rfl⟩
set_option maxHeartbeats 4000000 in
set_option maxRecDepth 100000 in
theorem freshF (x : Fil) (h1 : x.recs.length ≤ 1100) : CtrO Try.prog 23 [.ag (eFil x)] (.sv [.dv (.fl (.string x.fr)), .dv (.fl (.string x.to)), .dv (.fl (.int .i64 x.seq)), .ow 39 5 (List.map eRec x.recs)]) := by
  refine ctrO (n := 8) (rs := #[.cell 2 37]) (L := [(0, .d (.ag (eFil x)))]) Try.func23 rfl rfl rfl rfl rfl (fun w0 U0 => ?_)
  refine a_rseq ?_
  refine rg_nam (d := 1) (v := .pt 101 0) (m := 101) (nw := [(101, .bx 37 (eFil x))]) rfl (og rfl (of_eff (op_box 101 rfl rfl rfl rfl) rfl)) rfl ?_
  refine rg_nam (d := 2) (v := .pt 102 0) (m := 102) (nw := [(102, .bx 37 ([.fl (.string (⟨#[]⟩)), .fl (.string (⟨#[]⟩)), .fl (.int .i64 0), .fl (.slice none 0 0)]))]) rfl (og rfl (of_eff (s_alloc 102 rfl ti37 (by kernel_rfl) rfl) rfl)) rfl ?_
  refine rg_done rfl ?_
  refine a_rseq ?_
  refine rg_imp (imp_bt 101 rfl) ?_
  refine rg_imp (imp_bt 102 rfl) ?_
  refine rg_put (d := 3) (v := .pt 101 3) rfl (og rfl (of_eff (s_field_pt rfl Try.underlying37 rfl ti23 rfl rfl rfl) rfl)) ?_
  refine rg_put (d := 4) (v := .d (.sl 5 (List.map eRec x.recs))) rfl (og rfl (op_load_bt rfl Try.underlying23 rfl rfl rfl rfl rfl)) ?_
  refine rg_nam (d := 5) (v := .ow 103) (m := 103) (nw := [(103, .tr 39 5 (tD eRec x.recs))]) rfl (og rfl (of_eff (op_callO 103 rfl Try.func27 nm27 rfl (.cons rfl (.d _) .nil) (cloR x.recs (by omega)) rfl) rfl)) rfl ?_
  refine rg_put (d := 6) (v := .pt 101 3) rfl (og rfl (of_eff (s_field_pt rfl Try.underlying37 rfl ti23 rfl rfl rfl) rfl)) ?_
  refine rg_sto (nw := [(101, .bt 37 [.dv (.fl (.string x.fr)), .dv (.fl (.string x.to)), .dv (.fl (.int .i64 x.seq)), .ow 39 5 (List.map eRec x.recs)]), (103, .no)]) rfl (og rfl (of_eff (op_store_bt rfl rfl ti23 rfl rfl rfl (.tr rfl) rfl rfl rfl) rfl)) ?_
  refine rg_done rfl ?_
  refine a_rseq ?_
  refine rg_nam (d := 7) (v := .ow 104) (m := 104) (nw := [(104, .sv [.dv (.fl (.string x.fr)), .dv (.fl (.string x.to)), .dv (.fl (.int .i64 x.seq)), .ow 39 5 (List.map eRec x.recs)]), (101, .no)]) rfl (og rfl (of_eff (op_move_bt 104 rfl Try.underlying37 rfl ti37 rfl rfl rfl rfl) rfl)) rfl ?_
  refine rg_sto (nw := [(102, .bt 37 [.dv (.fl (.string x.fr)), .dv (.fl (.string x.to)), .dv (.fl (.int .i64 x.seq)), .ow 39 5 (List.map eRec x.recs)]), (104, .no)]) rfl (og rfl (of_eff (op_store_bt rfl rfl ti37 rfl rfl rfl (.sv rfl) rfl rfl rfl) rfl)) ?_
  refine rg_done rfl ?_
  refine a_ret ?_
  show ∃ rv, _ = #[rv] ∧ ResO _ _ rv _
  exact ⟨_, rfl, .cell rfl rfl Try.underlying37 rfl ti37 rfl⟩
theorem copyF (x : Fil) (h1 : x.recs.length ≤ 1100) : Ctr Try.prog 23 [.ag (eFil x)] (.d (.ag (eFil x))) := ctr_of_O (freshF x h1) rfl
set_option maxHeartbeats 4000000 in
set_option maxRecDepth 100000 in
theorem lisF (l : List Fil) (hl : l.length ≤ 1000) (hz : ∀ x ∈ l, x.recs.length ≤ 1100) : CtrO Try.prog 34 [.sl 4 (List.map eFil l), .fn 23 []] (.tr 37 4 (tD eFil l)) := by
  refine ctrO (n := 25) (rs := #[.tmp 4]) (L := [(0, .d (.sl 4 (List.map eFil l))), (1, .d (.fn 23 []))]) Try.func34 rfl rfl rfl rfl rfl (fun w0 U0 => ?_)
  refine a_rseq ?_
  refine rg_put (d := 4) (v := .d (.fl (.slice none 0 0))) rfl (og rfl (op_assign rfl rfl rfl)) ?_
  refine rg_done rfl ?_
  refine a_rseq ?_
  refine rg_put (d := 7) (v := .d (.sl 4 (List.map eFil l))) rfl (og rfl (op_move rfl rfl rfl)) ?_
  refine rg_nam (d := 8) (v := .ow 101) (m := 101) (nw := [(101, .tr 37 4 (tD eFil l))]) rfl (og rfl (of_eff (op_callO 101 rfl Try.func43 nm43 rfl (.cons rfl (.d _) .nil) (cloF l (by omega)) rfl) rfl)) rfl ?_
  refine rg_put (d := 5) (v := .ow 101) rfl (og rfl (op_assign rfl rfl rfl)) ?_
  refine rg_done rfl ?_
  refine a_seq ?_
  refine a_rseq ?_
  refine rg_put (d := 9) (v := .ow 101) rfl (og rfl (op_move rfl rfl rfl)) ?_
  refine rg_put (d := 10) (v := .d (.fl (.int .i64 (((l).length : Int))))) rfl (og rfl (op_len_tr rfl Try.underlying22 rfl rfl tD_len rfl)) ?_
  refine rg_put (d := 11) (v := .d (.fl (.int .i64 0))) rfl (og rfl (op_move rfl rfl rfl)) ?_
  refine rg_done rfl ?_
  refine a_block ?_
  refine a_loop (ι := Nat) (fun k => SS [(0, .d (.sl 4 (List.map eFil l))), (1, .d (.fn 23 [])), (4, .d (.fl (.slice none 0 0))), (5, .ow 101), (10, .d (.fl (.int .i64 (((l).length : Int))))), (11, .d (.fl (.int .i64 (k : Int))))] [(101, .tr 37 4 (tD eFil l))]) (fun k => k ≤ l.length) (fun k => l.length - k) 0 (by omega) (imp_forget rfl ⟨rfl, rfl, rfl, (by first | rfl | exact ci (by omega) | exact ci (by simp) | exact cd (by simp) | simp), rfl, (by first | rfl | exact ci (by omega) | exact ci (by simp) | exact cd (by simp) | simp), trivial⟩ ⟨(by first | rfl | simp), trivial⟩) (fun k hok => ?_)
  have hk := hok
  refine a_rseq ?_
  refine rg_put (d := 12) (v := .d (.fl (.bool ((decide ((k : Int) < ((l).length : Int))))))) rfl (og rfl (op_bin rfl rfl rfl (b_lss _ _ _ _) rfl)) ?_
  refine rg_done rfl ?_
  refine a_seq ?_
  refine a_cond rfl (fun h1 => ?_) (fun h1 => ?_)
  · skip
    have h2 := t_dec h1
    refine a_skip ?_
    show A _ _ _ _ _ _ _
    refine a_seq ?_
    refine a_block ?_
    refine a_rseq ?_
    refine rg_put (d := 13) (v := .d (.fl (.int .i64 (k : Int)))) rfl (og rfl (op_move rfl rfl rfl)) ?_
    refine rg_put (d := 6) (v := .d (.fl (.int .i64 (k : Int)))) rfl (og rfl (op_assign rfl rfl rfl)) ?_
    refine rg_done rfl ?_
    refine a_region ?_
    refine rg_put (d := 14) (v := .ow 101) rfl (og rfl (op_move rfl rfl rfl)) ?_
    refine rg_put (d := 15) (v := .d (.fl (.int .i64 (k : Int)))) rfl (og rfl (op_move rfl rfl rfl)) ?_
    refine rg_put (d := 16) (v := .d (.fn 23 [])) rfl (og rfl (op_move rfl rfl rfl)) ?_
    refine rg_put (d := 17) (v := .ow 101) rfl (og rfl (op_move rfl rfl rfl)) ?_
    refine rg_put (d := 18) (v := .d (.fl (.int .i64 (k : Int)))) rfl (og rfl (op_move rfl rfl rfl)) ?_
    refine rg_put (d := 19) (v := .pe 101 4 k 0) rfl (og rfl (op_index_tr rfl Try.underlying22 ti37 rfl rfl rfl (get_lt (tD_at (by omega))) rfl)) ?_
    refine rg_put (d := 20) (v := .d (.ag (eFil (ix l k)))) rfl (og rfl (of_eff (op_load_pes rfl Try.underlying37 rfl ti37 rfl rfl (tD_at (by omega)) rfl rfl rfl) rfl)) ?_
    refine rg_put (d := 21) (v := .d (.ag (eFil (ix l k)))) rfl (og rfl (op_callV rfl rfl ⟨_, Try.func23, nm23, rfl⟩ (.cons rfl (.d _) .nil) (copyF (ix l k) (hz _ (ix_mem (by omega)))) rfl)) ?_
    refine rg_put (d := 22) (v := .pe 101 4 k 0) rfl (og rfl (op_index_tr rfl Try.underlying22 ti37 rfl rfl rfl (get_lt (tD_at (by omega))) rfl)) ?_
    refine rg_sto (nw := [(101, .tr 37 4 (((tD eFil l).set k [.dv (.fl (.string ((ix l k).fr))), .dv (.fl (.string ((ix l k).to))), .dv (.fl (.int .i64 ((ix l k).seq))), .dv (.sl 5 (List.map eRec ((ix l k).recs)))])))]) rfl (og rfl (of_eff (op_store_pe rfl rfl ti37 rfl rfl (tD_at (by omega)) rfl (.d rfl) rfl rfl rfl) rfl)) ?_
    refine rg_done rfl ?_
    show A _ _ _ _ _ _ _
    refine a_region ?_
    refine rg_put (d := 23) (v := .d (.fl (.int .i64 (((k : Int) + 1))))) rfl (og rfl (op_bin rfl rfl rfl (fun x y w => b_add64 _ _ _ x y w (by omega)) rfl)) ?_
    refine rg_put (d := 11) (v := .d (.fl (.int .i64 (((k : Int) + 1))))) rfl (og rfl (op_move rfl rfl rfl)) ?_
    refine rg_done rfl ?_
    show ∃ i, _ ∧ _ ∧ Imp _ _ _ _ _
    refine ⟨k + 1, (by omega), by omega, imp_forget rfl ⟨rfl, rfl, rfl, rfl, rfl, (by first | rfl | exact ci (by omega) | exact ci (by simp) | exact cd (by simp) | simp), trivial⟩ ⟨(congrArg (fun z => Ob.tr 37 4 z) (tD_same (by omega) rfl)), trivial⟩⟩
  · skip
    have h3 := f_dec h1
    refine a_exit ?_
    show A _ _ _ _ _ _ _
    refine a_rseq ?_
    refine rg_put (d := 24) (v := .ow 101) rfl (og rfl (op_move rfl rfl rfl)) ?_
    refine rg_put (d := 4) (v := .ow 101) rfl (og rfl (op_assign rfl rfl rfl)) ?_
    refine rg_done rfl ?_
    refine a_ret ?_
    show ∃ rv, _ = #[rv] ∧ ResO _ _ rv _
    exact ⟨_, rfl, .tmp rfl rfl⟩
set_option maxHeartbeats 4000000 in
set_option maxRecDepth 100000 in
theorem frsF (l : List Fil) (hl : l.length ≤ 1000) (hz : ∀ x ∈ l, x.recs.length ≤ 1100) : CtrO Try.prog 26 [.sl 4 (List.map eFil l)] (.tr 37 4 (tD eFil l)) := by
  refine ctrO (n := 5) (rs := #[.tmp 2]) (L := [(0, .d (.sl 4 (List.map eFil l)))]) Try.func26 rfl rfl rfl rfl rfl (fun w0 U0 => ?_)
  refine a_rseq ?_
  refine rg_put (d := 2) (v := .d (.fl (.slice none 0 0))) rfl (og rfl (op_assign rfl rfl rfl)) ?_
  refine rg_done rfl ?_
  refine a_rseq ?_
  refine rg_put (d := 3) (v := .d (.sl 4 (List.map eFil l))) rfl (og rfl (op_move rfl rfl rfl)) ?_
  refine rg_nam (d := 4) (v := .ow 101) (m := 101) (nw := [(101, .tr 37 4 (tD eFil l))]) rfl (og rfl (of_eff (op_callO 101 rfl Try.func34 nm34 rfl (.cons rfl (.d _) (.cons rfl (.d _) .nil)) (lisF l hl hz) rfl) rfl)) rfl ?_
  refine rg_put (d := 2) (v := .ow 101) rfl (og rfl (op_assign rfl rfl rfl)) ?_
  refine rg_done rfl ?_
  refine a_ret ?_
  show ∃ rv, _ = #[rv] ∧ ResO _ _ rv _
  exact ⟨_, rfl, .tmp rfl rfl⟩
set_option maxHeartbeats 4000000 in
set_option maxRecDepth 100000 in
theorem freshP (p : Ptn) (hp : okP p) : CtrO Try.prog 15 [.ag (ePt p)] (.sv [.dv (.fl (.string p.name)), .dv (.fl (.int .i64 p.out)), .dv (.fl (.int .i64 p.inn)), .ow 37 4 (List.map eFil p.wait), .ow 39 5 (List.map eRec p.ours), .ow 39 5 (List.map eRec p.theirs)]) := by
  refine ctrO (n := 16) (rs := #[.cell 2 25]) (L := [(0, .d (.ag (ePt p)))]) Try.func15 rfl rfl rfl rfl rfl (fun w0 U0 => ?_)
  refine a_rseq ?_
  refine rg_nam (d := 1) (v := .pt 101 0) (m := 101) (nw := [(101, .bx 25 (ePt p))]) rfl (og rfl (of_eff (op_box 101 rfl rfl rfl rfl) rfl)) rfl ?_
  refine rg_nam (d := 2) (v := .pt 102 0) (m := 102) (nw := [(102, .bx 25 ([.fl (.string (⟨#[]⟩)), .fl (.int .i64 0), .fl (.int .i64 0), .fl (.slice none 0 0), .fl (.slice none 0 0), .fl (.slice none 0 0)]))]) rfl (og rfl (of_eff (s_alloc 102 rfl ti25 (by kernel_rfl) rfl) rfl)) rfl ?_
  refine rg_done rfl ?_
  refine a_rseq ?_
  refine rg_imp (imp_bt 101 rfl) ?_
  refine rg_imp (imp_bt 102 rfl) ?_
  refine rg_put (d := 3) (v := .pt 101 3) rfl (og rfl (of_eff (s_field_pt rfl Try.underlying25 rfl ti22 rfl rfl rfl) rfl)) ?_
  refine rg_put (d := 4) (v := .d (.sl 4 (List.map eFil p.wait))) rfl (og rfl (op_load_bt rfl Try.underlying22 rfl rfl rfl rfl rfl)) ?_
  refine rg_nam (d := 5) (v := .ow 103) (m := 103) (nw := [(103, .tr 37 4 (tD eFil p.wait))]) rfl (og rfl (of_eff (op_callO 103 rfl Try.func26 nm26 rfl (.cons rfl (.d _) .nil) (frsF p.wait (by have := hp.w; omega) hp.r) rfl) rfl)) rfl ?_
  refine rg_put (d := 6) (v := .pt 101 3) rfl (og rfl (of_eff (s_field_pt rfl Try.underlying25 rfl ti22 rfl rfl rfl) rfl)) ?_
  refine rg_sto (nw := [(101, .bt 25 [.dv (.fl (.string p.name)), .dv (.fl (.int .i64 p.out)), .dv (.fl (.int .i64 p.inn)), .ow 37 4 (List.map eFil p.wait), .dv (.sl 5 (List.map eRec p.ours)), .dv (.sl 5 (List.map eRec p.theirs))]), (103, .no)]) rfl (og rfl (of_eff (op_store_bt rfl rfl ti22 rfl rfl rfl (.tr rfl) rfl rfl rfl) rfl)) ?_
  refine rg_done rfl ?_
  refine a_rseq ?_
  refine rg_put (d := 7) (v := .pt 101 4) rfl (og rfl (of_eff (s_field_pt rfl Try.underlying25 rfl ti23 rfl rfl rfl) rfl)) ?_
  refine rg_put (d := 8) (v := .d (.sl 5 (List.map eRec p.ours))) rfl (og rfl (op_load_bt rfl Try.underlying23 rfl rfl rfl rfl rfl)) ?_
  refine rg_nam (d := 9) (v := .ow 104) (m := 104) (nw := [(104, .tr 39 5 (tD eRec p.ours))]) rfl (og rfl (of_eff (op_callO 104 rfl Try.func27 nm27 rfl (.cons rfl (.d _) .nil) (cloR p.ours (by have := hp.o; have := hp.t; omega)) rfl) rfl)) rfl ?_
  refine rg_put (d := 10) (v := .pt 101 4) rfl (og rfl (of_eff (s_field_pt rfl Try.underlying25 rfl ti23 rfl rfl rfl) rfl)) ?_
  refine rg_sto (nw := [(101, .bt 25 [.dv (.fl (.string p.name)), .dv (.fl (.int .i64 p.out)), .dv (.fl (.int .i64 p.inn)), .ow 37 4 (List.map eFil p.wait), .ow 39 5 (List.map eRec p.ours), .dv (.sl 5 (List.map eRec p.theirs))]), (104, .no)]) rfl (og rfl (of_eff (op_store_bt rfl rfl ti23 rfl rfl rfl (.tr rfl) rfl rfl rfl) rfl)) ?_
  refine rg_done rfl ?_
  refine a_rseq ?_
  refine rg_put (d := 11) (v := .pt 101 5) rfl (og rfl (of_eff (s_field_pt rfl Try.underlying25 rfl ti23 rfl rfl rfl) rfl)) ?_
  refine rg_put (d := 12) (v := .d (.sl 5 (List.map eRec p.theirs))) rfl (og rfl (op_load_bt rfl Try.underlying23 rfl rfl rfl rfl rfl)) ?_
  refine rg_nam (d := 13) (v := .ow 105) (m := 105) (nw := [(105, .tr 39 5 (tD eRec p.theirs))]) rfl (og rfl (of_eff (op_callO 105 rfl Try.func27 nm27 rfl (.cons rfl (.d _) .nil) (cloR p.theirs (by have := hp.o; have := hp.t; omega)) rfl) rfl)) rfl ?_
  refine rg_put (d := 14) (v := .pt 101 5) rfl (og rfl (of_eff (s_field_pt rfl Try.underlying25 rfl ti23 rfl rfl rfl) rfl)) ?_
  refine rg_sto (nw := [(101, .bt 25 [.dv (.fl (.string p.name)), .dv (.fl (.int .i64 p.out)), .dv (.fl (.int .i64 p.inn)), .ow 37 4 (List.map eFil p.wait), .ow 39 5 (List.map eRec p.ours), .ow 39 5 (List.map eRec p.theirs)]), (105, .no)]) rfl (og rfl (of_eff (op_store_bt rfl rfl ti23 rfl rfl rfl (.tr rfl) rfl rfl rfl) rfl)) ?_
  refine rg_done rfl ?_
  refine a_rseq ?_
  refine rg_nam (d := 15) (v := .ow 106) (m := 106) (nw := [(106, .sv [.dv (.fl (.string p.name)), .dv (.fl (.int .i64 p.out)), .dv (.fl (.int .i64 p.inn)), .ow 37 4 (List.map eFil p.wait), .ow 39 5 (List.map eRec p.ours), .ow 39 5 (List.map eRec p.theirs)]), (101, .no)]) rfl (og rfl (of_eff (op_move_bt 106 rfl Try.underlying25 rfl ti25 rfl rfl rfl rfl) rfl)) rfl ?_
  refine rg_sto (nw := [(102, .bt 25 [.dv (.fl (.string p.name)), .dv (.fl (.int .i64 p.out)), .dv (.fl (.int .i64 p.inn)), .ow 37 4 (List.map eFil p.wait), .ow 39 5 (List.map eRec p.ours), .ow 39 5 (List.map eRec p.theirs)]), (106, .no)]) rfl (og rfl (of_eff (op_store_bt rfl rfl ti25 rfl rfl rfl (.sv rfl) rfl rfl rfl) rfl)) ?_
  refine rg_done rfl ?_
  refine a_ret ?_
  show ∃ rv, _ = #[rv] ∧ ResO _ _ rv _
  exact ⟨_, rfl, .cell rfl rfl Try.underlying25 rfl ti25 rfl⟩
set_option maxHeartbeats 4000000 in
set_option maxRecDepth 100000 in
theorem pdC (x : Fil) (seq : Int) : Ctr Try.prog 17 [.ag (eFil x), .el [.fl (.int .i64 seq)]] (.d (.fl (.bool (pd seq x)))) := by
  refine ctr (n := 8) (rs := #[.tmp 3]) (L := [(0, .d (.ag (eFil x))), (1, .el [.fl (.int .i64 seq)])]) Try.func17 rfl rfl rfl rfl rfl (fun w0 U0 => ?_)
  refine a_rseq ?_
  refine rg_nam (d := 2) (v := .pt 101 0) (m := 101) (nw := [(101, .bx 37 (eFil x))]) rfl (og rfl (of_eff (op_box 101 rfl rfl rfl rfl) rfl)) rfl ?_
  refine rg_put (d := 3) (v := .d (.fl (.bool false))) rfl (og rfl (op_assign rfl rfl rfl)) ?_
  refine rg_done rfl ?_
  refine a_rseq ?_
  refine rg_put (d := 4) (v := .pt 101 2) rfl (og rfl (of_eff (s_field_pt rfl Try.underlying37 rfl ti3 rfl rfl rfl) rfl)) ?_
  refine rg_put (d := 5) (v := .d (.fl (.int .i64 x.seq))) rfl (og rfl (op_load_pt rfl Try.underlying3 rfl rfl rfl rfl rfl)) ?_
  refine rg_put (d := 6) (v := .d (.fl (.int .i64 seq))) rfl (og rfl (op_load_el rfl Try.underlying3 rfl rfl rfl rfl)) ?_
  refine rg_put (d := 7) (v := .d (.fl (.bool ((decide (x.seq ≤ seq)))))) rfl (og rfl (op_bin rfl rfl rfl (b_leq _ _ _ _) rfl)) ?_
  refine rg_put (d := 3) (v := .d (.fl (.bool ((decide (x.seq ≤ seq)))))) rfl (og rfl (op_assign rfl rfl rfl)) ?_
  refine rg_done rfl ?_
  refine a_ret ?_
  show ∃ ds, ResL _ _ _ ds ∧ RV.of ds = _
  refine ⟨[.fl (.bool ((decide (x.seq ≤ seq))))], (.cons (.tmp rfl (.d _)) .nil), ?_⟩
  rfl
set_option maxHeartbeats 4000000 in
set_option maxRecDepth 100000 in
theorem ixC (l : List Fil) (seq : Int) (hl : l.length ≤ 1000) : CtrM Try.prog 28 .r (.tr 37 4 (tD eFil l)) [.fn 17 [.el [.fl (.int .i64 seq)]]] (.tr 37 4 (tD eFil l)) (.d (.fl (.int .i64 (iF seq l)))) := by
  refine ctrM (n := 19) (rs := #[.tmp 4]) (L := [(1, .d (.fn 17 [.el [.fl (.int .i64 seq)]]))]) Try.func28 rfl rfl rfl rfl rfl rfl rfl (fun w0 U0 v0 H0 V0 Q0 => ?_)
  refine a_rseq ?_
  refine rg_put (d := 4) (v := .d (.fl (.int .i64 0))) rfl (og rfl (op_assign rfl rfl rfl)) ?_
  refine rg_done rfl ?_
  refine a_seq ?_
  refine a_rseq ?_
  refine rg_put (d := 6) (v := .ow 0) rfl (og rfl (op_move_pw rfl rfl rfl)) ?_
  refine rg_put (d := 7) (v := .d (.fl (.int .i64 (((l).length : Int))))) rfl (og rfl (op_len_tr rfl Try.underlying22 rfl rfl tD_len rfl)) ?_
  refine rg_put (d := 8) (v := .d (.fl (.int .i64 0))) rfl (og rfl (op_move rfl rfl rfl)) ?_
  refine rg_done rfl ?_
  refine a_block ?_
  refine a_loop (ι := Nat) (fun k => SS [(0, .pw 0 v0), (1, .d (.fn 17 [.el [.fl (.int .i64 seq)]])), (7, .d (.fl (.int .i64 (((l).length : Int))))), (8, .d (.fl (.int .i64 (k : Int))))] [(0, .tr 37 4 (tD eFil l)), (1, .pin H0 V0 Q0)]) (fun k => k ≤ l.length ∧ ∀ q, q < k → (pd seq (ix l q)) = false) (fun k => l.length - k) 0 (⟨by omega, fun q h => by omega⟩) (imp_forget rfl ⟨rfl, rfl, rfl, (by first | rfl | exact ci (by omega) | exact ci (by simp) | exact cd (by simp) | simp), trivial⟩ ⟨rfl, rfl, trivial⟩) (fun k hok => ?_)
  obtain ⟨hkk, hq⟩ := hok
  refine a_rseq ?_
  refine rg_put (d := 9) (v := .d (.fl (.bool ((decide ((k : Int) < ((l).length : Int))))))) rfl (og rfl (op_bin rfl rfl rfl (b_lss _ _ _ _) rfl)) ?_
  refine rg_done rfl ?_
  refine a_seq ?_
  refine a_cond rfl (fun h1 => ?_) (fun h1 => ?_)
  · skip
    have h2 := t_dec h1
    refine a_skip ?_
    show A _ _ _ _ _ _ _
    refine a_seq ?_
    refine a_block ?_
    refine a_rseq ?_
    refine rg_put (d := 10) (v := .d (.fl (.int .i64 (k : Int)))) rfl (og rfl (op_move rfl rfl rfl)) ?_
    refine rg_put (d := 5) (v := .d (.fl (.int .i64 (k : Int)))) rfl (og rfl (op_assign rfl rfl rfl)) ?_
    refine rg_done rfl ?_
    refine a_rseq ?_
    refine rg_put (d := 11) (v := .d (.fn 17 [.el [.fl (.int .i64 seq)]])) rfl (og rfl (op_move rfl rfl rfl)) ?_
    refine rg_put (d := 12) (v := .ow 0) rfl (og rfl (op_move_pw rfl rfl rfl)) ?_
    refine rg_put (d := 13) (v := .d (.fl (.int .i64 (k : Int)))) rfl (og rfl (op_move rfl rfl rfl)) ?_
    refine rg_put (d := 14) (v := .pe 0 4 k 0) rfl (og rfl (op_index_tr rfl Try.underlying22 ti37 rfl rfl rfl (get_lt (tD_at (by omega))) rfl)) ?_
    refine rg_put (d := 15) (v := .d (.ag (eFil (ix l k)))) rfl (og rfl (of_eff (op_load_pes rfl Try.underlying37 rfl ti37 rfl rfl (tD_at (by omega)) rfl rfl rfl) rfl)) ?_
    refine rg_put (d := 16) (v := .d (.fl (.bool ((pd seq (ix l k)))))) rfl (og rfl (op_callV rfl rfl ⟨_, Try.func17, nm17, rfl⟩ (.cons rfl (.d _) .nil) (pdC (ix l k) seq) rfl)) ?_
    refine rg_done rfl ?_
    refine a_cond rfl (fun h3 => ?_) (fun h3 => ?_)
    · skip
      refine a_rseq ?_
      refine rg_put (d := 17) (v := .d (.fl (.int .i64 (k : Int)))) rfl (og rfl (op_move rfl rfl rfl)) ?_
      refine rg_put (d := 4) (v := .d (.fl (.int .i64 (k : Int)))) rfl (og rfl (op_assign rfl rfl rfl)) ?_
      refine rg_done rfl ?_
      refine a_ret ?_
      show (∃ ds, ResL _ _ _ ds ∧ RV.of ds = _) ∧ _ = _ ∧ _ = _ ∧ _ = _
      refine ⟨⟨[.fl (.int .i64 (k : Int))], (.cons (.tmp rfl (.d _)) .nil), ?_⟩, rfl, ?_, rfl⟩
      rw [iF_at (by omega) hq h3]; rfl
      all_goals rfl
    · skip
      refine a_skip ?_
      show A _ _ _ _ _ _ _
      refine a_region ?_
      refine rg_put (d := 18) (v := .d (.fl (.int .i64 (((k : Int) + 1))))) rfl (og rfl (op_bin rfl rfl rfl (fun x y w => b_add64 _ _ _ x y w (by omega)) rfl)) ?_
      refine rg_put (d := 8) (v := .d (.fl (.int .i64 (((k : Int) + 1))))) rfl (og rfl (op_move rfl rfl rfl)) ?_
      refine rg_done rfl ?_
      have hx : (pd seq (ix l k)) = false := h3
      show ∃ i, _ ∧ _ ∧ Imp _ _ _ _ _
      refine ⟨k + 1, ⟨by omega, fun q h => (Nat.lt_succ_iff_lt_or_eq.1 h).elim (hq q) (fun e => by rw [e]; exact hx)⟩, by omega, imp_forget rfl ⟨rfl, rfl, rfl, (by first | rfl | exact ci (by omega) | exact ci (by simp) | exact cd (by simp) | simp), trivial⟩ ⟨rfl, rfl, trivial⟩⟩
  · skip
    have h4 := f_dec h1
    refine a_exit ?_
    show A _ _ _ _ _ _ _
    refine a_rseq ?_
    refine rg_put (d := 4) (v := .d (.fl (.int .i64 (-1)))) rfl (og rfl (op_assign rfl rfl rfl)) ?_
    refine rg_done rfl ?_
    refine a_ret ?_
    show (∃ ds, ResL _ _ _ ds ∧ RV.of ds = _) ∧ _ = _ ∧ _ = _ ∧ _ = _
    refine ⟨⟨[.fl (.int .i64 (-1))], (.cons (.tmp rfl (.d _)) .nil), ?_⟩, rfl, ?_, rfl⟩
    rw [iF_no (fun q h => hq q (by omega))]; rfl
    all_goals rfl
set_option maxHeartbeats 4000000 in
set_option maxRecDepth 100000 in
theorem delC (l : List Fil) (seq : Int) (hl : l.length ≤ 1000) : CtrT Try.prog 16 37 4 (tD eFil l) [.fn 17 [.el [.fl (.int .i64 seq)]]] (tD eFil (dlF seq l l.length)) := by
  refine ctrT (n := 42) (t := 4) (L := [(1, .d (.fn 17 [.el [.fl (.int .i64 seq)]]))]) Try.func16 rfl rfl rfl rfl rfl (fun w0 U0 H0 V0 Q0 => ?_)
  refine a_rseq ?_
  refine rg_put (d := 4) (v := .d (.fl (.slice none 0 0))) rfl (og rfl (op_assign rfl rfl rfl)) ?_
  refine rg_done rfl ?_
  refine a_rseq ?_
  refine rg_put (d := 8) (v := .ow 0) rfl (og rfl (op_move rfl rfl rfl)) ?_
  refine rg_put (d := 9) (v := .d (.fn 17 [.el [.fl (.int .i64 seq)]])) rfl (og rfl (op_move rfl rfl rfl)) ?_
  refine rg_upd (d := 10) (v := .d (.fl (.int .i64 (iF seq l)))) (nw := [(0, .tr 37 4 (tD eFil l))]) rfl (og rfl (of_eff (op_callM .r (m := 0) (ob := .tr 37 4 (tD eFil l)) (ob' := .tr 37 4 (tD eFil l)) (r := .d (.fl (.int .i64 (iF seq l)))) rfl Try.func28 nm28 rfl rfl rfl rfl rfl rfl (.cons rfl (.d _) .nil) (ixC l seq hl) rfl) rfl)) ?_
  refine rg_put (d := 5) (v := .d (.fl (.int .i64 (iF seq l)))) rfl (og rfl (op_assign rfl rfl rfl)) ?_
  refine rg_done rfl ?_
  refine a_seq ?_
  refine a_rseq ?_
  refine rg_put (d := 11) (v := .d (.fl (.int .i64 (iF seq l)))) rfl (og rfl (op_move rfl rfl rfl)) ?_
  refine rg_put (d := 12) (v := .d (.fl (.bool (((iF seq l) == (-1)))))) rfl (og rfl (op_bin rfl rfl rfl (b_eql _ _ _ _) rfl)) ?_
  refine rg_done rfl ?_
  refine a_cond rfl (fun h1 => ?_) (fun h1 => ?_)
  · skip
    have h2 := t_beq h1
    refine a_rseq ?_
    refine rg_put (d := 13) (v := .ow 0) rfl (og rfl (op_move rfl rfl rfl)) ?_
    refine rg_put (d := 4) (v := .ow 0) rfl (og rfl (op_assign rfl rfl rfl)) ?_
    refine rg_done rfl ?_
    refine a_ret ?_
    show ∃ m, _ ∧ _ ∧ _ ∧ _
    rw [iF_none h1]
    exact ⟨0, by decide, rfl, rfl, rfl⟩
  · skip
    have h3 := f_beq h1
    refine a_skip ?_
    show A _ _ _ _ _ _ _
    refine a_seq ?_
    refine a_rseq ?_
    obtain ⟨k, hik, hk, hq, hpk⟩ := iF_some h1
    rw [show (iF seq l) = (k : Int) from hik]
    refine rg_put (d := 14) (v := .d (.fl (.int .i64 (k : Int)))) rfl (og rfl (op_move rfl rfl rfl)) ?_
    refine rg_put (d := 15) (v := .d (.fl (.int .i64 (((k : Int) + 1))))) rfl (og rfl (op_bin rfl rfl rfl (fun x y w => b_add64 _ _ _ x y w (by omega)) rfl)) ?_
    refine rg_put (d := 6) (v := .d (.fl (.int .i64 (((k : Int) + 1))))) rfl (og rfl (op_assign rfl rfl rfl)) ?_
    refine rg_done rfl ?_
    refine a_block ?_
    obtain ⟨hr1, hr2⟩ := rwF_start hk hq hpk
    refine a_loop (ι := Nat) (fun j => SS [(0, .ow 0), (1, .d (.fn 17 [.el [.fl (.int .i64 seq)]])), (4, .d (.fl (.slice none 0 0))), (12, .d (.fl (.bool (((k : Int) == (-1)))))), (6, .d (.fl (.int .i64 (j : Int)))), (5, .d (.fl (.int .i64 (((dlF seq l j).length : Int)))))] [(1, .pin H0 V0 Q0), (0, .tr 37 4 (tD eFil (rwF seq l j)))]) (fun j => k + 1 ≤ j ∧ j ≤ l.length ∧ (dlF seq l j).length + 1 ≤ j) (fun j => l.length - j) (k + 1) (⟨by omega, by omega, by omega⟩) (imp_forget rfl ⟨rfl, rfl, rfl, rfl, (ci (by omega)), (ci (by omega)), trivial⟩ ⟨rfl, (congrArg (fun z => Ob.tr 37 4 (tD eFil z)) hr1.symm), trivial⟩) (fun j hok => ?_)
    obtain ⟨hj1, hjl, hdl0⟩ := hok
    have hrl := rwF_len (seq := seq) hjl
    refine a_seq ?_
    refine a_rseq ?_
    refine rg_put (d := 16) (v := .d (.fl (.int .i64 (j : Int)))) rfl (og rfl (op_move rfl rfl rfl)) ?_
    refine rg_put (d := 17) (v := .ow 0) rfl (og rfl (op_move rfl rfl rfl)) ?_
    refine rg_put (d := 18) (v := .d (.fl (.int .i64 ((((rwF seq l j)).length : Int))))) rfl (og rfl (op_len_tr rfl Try.underlying22 rfl rfl tD_len rfl)) ?_
    refine rg_put (d := 19) (v := .d (.fl (.bool ((decide ((j : Int) < (((rwF seq l j)).length : Int))))))) rfl (og rfl (op_bin rfl rfl rfl (b_lss _ _ _ _) rfl)) ?_
    refine rg_done rfl ?_
    refine a_cond rfl (fun h4 => ?_) (fun h4 => ?_)
    · skip
      have h5 := t_dec h4
      refine a_skip ?_
      show A _ _ _ _ _ _ _
      refine a_seq ?_
      refine a_block ?_
      refine a_rseq ?_
      refine rg_put (d := 22) (v := .ow 0) rfl (og rfl (op_move rfl rfl rfl)) ?_
      refine rg_put (d := 23) (v := .d (.fl (.int .i64 (j : Int)))) rfl (og rfl (op_move rfl rfl rfl)) ?_
      refine rg_put (d := 24) (v := .pe 0 4 j 0) rfl (og rfl (op_index_tr rfl Try.underlying22 ti37 rfl rfl rfl (get_lt (tD_at (by omega))) rfl)) ?_
      refine rg_put (d := 25) (v := .d (.ag (eFil ((Fil.mk (((ix (rwF seq l j) j)).fr) (((ix (rwF seq l j) j)).to) (((ix (rwF seq l j) j)).seq) (((ix (rwF seq l j) j)).recs)))))) rfl (og rfl (of_eff (op_load_pes rfl Try.underlying37 rfl ti37 rfl rfl (tD_at (by omega)) rfl rfl rfl) rfl)) ?_
      refine rg_nam (d := 7) (v := .pt 101 0) (m := 101) (nw := [(101, .bx 37 ([.fl (.string (⟨#[]⟩)), .fl (.string (⟨#[]⟩)), .fl (.int .i64 0), .fl (.slice none 0 0)]))]) rfl (og rfl (of_eff (s_alloc 101 rfl ti37 (by kernel_rfl) rfl) rfl)) rfl ?_
      refine rg_sto (nw := [(101, .bx 37 ((eFil ((Fil.mk (((ix (rwF seq l j) j)).fr) (((ix (rwF seq l j) j)).to) (((ix (rwF seq l j) j)).seq) (((ix (rwF seq l j) j)).recs))))))]) rfl (og rfl (of_eff (s_store rfl rfl ti37 rfl rfl rfl rfl rfl rfl) rfl)) ?_
      refine rg_done rfl ?_
      refine a_rseq ?_
      refine rg_put (d := 26) (v := .d (.fn 17 [.el [.fl (.int .i64 seq)]])) rfl (og rfl (op_move rfl rfl rfl)) ?_
      refine rg_put (d := 27) (v := .d (.ag (eFil (((Fil.mk (((ix (rwF seq l j) j)).fr) (((ix (rwF seq l j) j)).to) (((ix (rwF seq l j) j)).seq) (((ix (rwF seq l j) j)).recs))))))) rfl (og rfl (of_eff (s_load_pts rfl Try.underlying37 rfl ti37 rfl rfl rfl rfl) rfl)) ?_
      refine rg_put (d := 28) (v := .d (.fl (.bool ((pd seq ((ix (rwF seq l j) j))))))) rfl (og rfl (op_callV rfl rfl ⟨_, Try.func17, nm17, rfl⟩ (.cons rfl (.d _) .nil) (pdC ((ix (rwF seq l j) j)) seq) rfl)) ?_
      refine rg_put (d := 29) (v := .d (.fl (.bool ((!((pd seq ((ix (rwF seq l j) j))))))))) rfl (og rfl (op_un rfl rfl (u_not _) rfl)) ?_
      refine rg_done rfl ?_
      refine a_cond rfl (fun h6 => ?_) (fun h6 => ?_)
      · skip
        have h7 := t_not h6
        refine a_rseq ?_
        refine rg_put (d := 30) (v := .ow 0) rfl (og rfl (op_move rfl rfl rfl)) ?_
        refine rg_put (d := 31) (v := .d (.fl (.int .i64 (((dlF seq l j).length : Int))))) rfl (og rfl (op_move rfl rfl rfl)) ?_
        refine rg_put (d := 32) (v := .d (.ag (eFil (((Fil.mk (((ix (rwF seq l j) j)).fr) (((ix (rwF seq l j) j)).to) (((ix (rwF seq l j) j)).seq) (((ix (rwF seq l j) j)).recs))))))) rfl (og rfl (of_eff (s_load_pts rfl Try.underlying37 rfl ti37 rfl rfl rfl rfl) rfl)) ?_
        refine rg_put (d := 33) (v := .pe 0 4 ((dlF seq l j).length) 0) rfl (og rfl (op_index_tr rfl Try.underlying22 ti37 rfl rfl rfl (get_lt (tD_at (by omega))) rfl)) ?_
        refine rg_sto (nw := [(0, .tr 37 4 ((((tD eFil (rwF seq l j))).set ((dlF seq l j).length) [.dv (.fl (.string ((((Fil.mk (((ix (rwF seq l j) j)).fr) (((ix (rwF seq l j) j)).to) (((ix (rwF seq l j) j)).seq) (((ix (rwF seq l j) j)).recs)))).fr))), .dv (.fl (.string ((((Fil.mk (((ix (rwF seq l j) j)).fr) (((ix (rwF seq l j) j)).to) (((ix (rwF seq l j) j)).seq) (((ix (rwF seq l j) j)).recs)))).to))), .dv (.fl (.int .i64 ((((Fil.mk (((ix (rwF seq l j) j)).fr) (((ix (rwF seq l j) j)).to) (((ix (rwF seq l j) j)).seq) (((ix (rwF seq l j) j)).recs)))).seq))), .dv (.sl 5 (List.map eRec ((((Fil.mk (((ix (rwF seq l j) j)).fr) (((ix (rwF seq l j) j)).to) (((ix (rwF seq l j) j)).seq) (((ix (rwF seq l j) j)).recs)))).recs)))])))]) rfl (og rfl (of_eff (op_store_pe rfl rfl ti37 rfl rfl (tD_at (by omega)) rfl (.d rfl) rfl rfl rfl) rfl)) ?_
        refine rg_done rfl ?_
        refine a_region ?_
        refine rg_put (d := 34) (v := .d (.fl (.int .i64 (((dlF seq l j).length : Int))))) rfl (og rfl (op_move rfl rfl rfl)) ?_
        refine rg_put (d := 35) (v := .d (.fl (.int .i64 ((((dlF seq l j).length : Int) + 1))))) rfl (og rfl (op_bin rfl rfl rfl (fun x y w => b_add64 _ _ _ x y w (by omega)) rfl)) ?_
        refine rg_put (d := 5) (v := .d (.fl (.int .i64 ((((dlF seq l j).length : Int) + 1))))) rfl (og rfl (op_assign rfl rfl rfl)) ?_
        refine rg_done rfl ?_
        show A _ _ _ _ _ _ _
        refine a_region ?_
        refine rg_put (d := 20) (v := .d (.fl (.int .i64 (j : Int)))) rfl (og rfl (op_move rfl rfl rfl)) ?_
        refine rg_put (d := 21) (v := .d (.fl (.int .i64 (((j : Int) + 1))))) rfl (og rfl (op_bin rfl rfl rfl (fun x y w => b_add64 _ _ _ x y w (by omega)) rfl)) ?_
        refine rg_put (d := 6) (v := .d (.fl (.int .i64 (((j : Int) + 1))))) rfl (og rfl (op_assign rfl rfl rfl)) ?_
        refine rg_done rfl ?_
        have hc : pd seq (ix l j) = false := by have h := h7; rwa [rwF_ix (by omega)] at h
        have hd := dlF_n (by omega) hc
        have hdl : (dlF seq l (j + 1)).length = (dlF seq l j).length + 1 := (congrArg List.length hd).trans (by rw [List.length_append]; rfl)
        have hst : (((tD eFil (rwF seq l j))).set ((dlF seq l j).length) [.dv (.fl (.string ((((Fil.mk (((ix (rwF seq l j) j)).fr) (((ix (rwF seq l j) j)).to) (((ix (rwF seq l j) j)).seq) (((ix (rwF seq l j) j)).recs)))).fr))), .dv (.fl (.string ((((Fil.mk (((ix (rwF seq l j) j)).fr) (((ix (rwF seq l j) j)).to) (((ix (rwF seq l j) j)).seq) (((ix (rwF seq l j) j)).recs)))).to))), .dv (.fl (.int .i64 ((((Fil.mk (((ix (rwF seq l j) j)).fr) (((ix (rwF seq l j) j)).to) (((ix (rwF seq l j) j)).seq) (((ix (rwF seq l j) j)).recs)))).seq))), .dv (.sl 5 (List.map eRec ((((Fil.mk (((ix (rwF seq l j) j)).fr) (((ix (rwF seq l j) j)).to) (((ix (rwF seq l j) j)).seq) (((ix (rwF seq l j) j)).recs)))).recs)))]) = tD eFil (rwF seq l (j + 1)) := (tD_set (x := ix (rwF seq l j) j) rfl).trans (by rw [rwF_ix (q := j) (by omega)]; exact congrArg (tD eFil) (rwF_set (by omega) (by omega) hc))
        show ∃ i, _ ∧ _ ∧ Imp _ _ _ _ _
        refine ⟨j + 1, ⟨by omega, by omega, by omega⟩, by omega, imp_forget rfl ⟨rfl, rfl, rfl, rfl, (ci (by omega)), (ci (by omega)), trivial⟩ ⟨rfl, (congrArg (fun z => Ob.tr 37 4 z) hst), trivial⟩⟩
      · skip
        have h8 := f_not h6
        refine a_skip ?_
        show A _ _ _ _ _ _ _
        refine a_region ?_
        refine rg_put (d := 20) (v := .d (.fl (.int .i64 (j : Int)))) rfl (og rfl (op_move rfl rfl rfl)) ?_
        refine rg_put (d := 21) (v := .d (.fl (.int .i64 (((j : Int) + 1))))) rfl (og rfl (op_bin rfl rfl rfl (fun x y w => b_add64 _ _ _ x y w (by omega)) rfl)) ?_
        refine rg_put (d := 6) (v := .d (.fl (.int .i64 (((j : Int) + 1))))) rfl (og rfl (op_assign rfl rfl rfl)) ?_
        refine rg_done rfl ?_
        have hc : pd seq (ix l j) = true := by have h := h8; rwa [rwF_ix (by omega)] at h
        have hd := dlF_y (by omega) hc
        have hdl : (dlF seq l (j + 1)).length = (dlF seq l j).length := congrArg List.length hd
        have hst : tD eFil (rwF seq l j) = tD eFil (rwF seq l (j + 1)) := by unfold rwF; rw [hd]
        show ∃ i, _ ∧ _ ∧ Imp _ _ _ _ _
        refine ⟨j + 1, ⟨by omega, by omega, by omega⟩, by omega, imp_forget rfl ⟨rfl, rfl, rfl, rfl, (ci (by omega)), (ci (by omega)), trivial⟩ ⟨rfl, (congrArg (fun z => Ob.tr 37 4 z) hst), trivial⟩⟩
    · skip
      have h9 := f_dec h4
      refine a_exit ?_
      show A _ _ _ _ _ _ _
      refine a_rseq ?_
      have hjl2 : j = l.length := by omega
      rw [show (rwF seq l j) = (rwF seq l l.length) from (by rw [hjl2])]
      rw [show (dlF seq l j) = (dlF seq l l.length) from (by rw [hjl2])]
      rw [hjl2] at hrl hdl0
      refine rg_put (d := 36) (v := .ow 0) rfl (og rfl (op_move rfl rfl rfl)) ?_
      refine rg_put (d := 37) (v := .d (.fl (.int .i64 (((dlF seq l l.length).length : Int))))) rfl (og rfl (op_move rfl rfl rfl)) ?_
      refine rg_put (d := 38) (v := .wn 0 ((dlF seq l l.length).length) 4) rfl (og rfl (op_winD rfl Try.underlying22 ti37 rfl rfl rfl (k := (dlF seq l l.length).length) (by omega) (by omega) rfl)) ?_
      refine rg_sto (nw := [(0, .tr 37 4 (tD eFil (((rwF seq l l.length).take ((dlF seq l l.length).length))) ++ List.replicate ((rwF seq l l.length).length - ((dlF seq l l.length).length)) (List.replicate 4 OC.un)))]) rfl (og rfl (of_eff (op_clear_wn rfl Try.underlying22 ti37 rfl (by kernel_rfl) (enc := eFil) (fun _ => rfl) rfl rfl (by omega) rfl) rfl)) ?_
      refine rg_done rfl ?_
      refine a_rseq ?_
      have htk : ((rwF seq l l.length).take (dlF seq l l.length).length).length = (dlF seq l l.length).length := by rw [rwF_end]
      refine rg_put (d := 39) (v := .ow 0) rfl (og rfl (op_move rfl rfl rfl)) ?_
      refine rg_put (d := 40) (v := .d (.fl (.int .i64 (((dlF seq l l.length).length : Int))))) rfl (og rfl (op_move rfl rfl rfl)) ?_
      refine rg_nam (d := 41) (v := .ow 102) (m := 102) (nw := [(102, .tr 37 4 (tD eFil (((rwF seq l l.length).take ((dlF seq l l.length).length))))), (0, .no)]) rfl (og rfl (of_eff (op_sliceOwnZ 102 rfl Try.underlying22 ti37 (enc := eFil) (A := ((rwF seq l l.length).take ((dlF seq l l.length).length))) (fun _ => rfl) rfl rfl rfl (by omega) (by have h1 := htk; have h2 := hrl; simp only [List.length_replicate]; omega) rfl) rfl)) rfl ?_
      refine rg_put (d := 4) (v := .ow 102) rfl (og rfl (op_assign rfl rfl rfl)) ?_
      refine rg_done rfl ?_
      refine a_ret ?_
      show ∃ m, _ ∧ _ ∧ _ ∧ _
      rw [rwF_end]
      exact ⟨102, by decide, rfl, rfl, rfl⟩
end Go.Proofs.Ytaghifpmcjgopaa.Wk
