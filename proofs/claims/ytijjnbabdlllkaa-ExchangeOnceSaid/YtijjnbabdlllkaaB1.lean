/- Copies of partners; the check of a file. Conditions: as each theorem names them. -/
import Derived.Test.YtijjnbabdlllkaaAvW
import Derived.Test.YtijjnbabdlllkaaNw
import Derived.Test.YtijjnbabdlllkaaTy
set_option linter.unusedSimpArgs false
set_option linter.unusedVariables false
namespace Go.Proofs.Ytijjnbabdlllkaa.Wk
open Go Go.RowKit Go.Proofs.Ytijjnbabdlllkaa.Av
theorem ne_self_b (a : Int) : (a != a) = false := by simp
theorem sEq_eq {a b : ByteArray} (h : sEq a b = true) : a = b := of_decide_eq_true h
theorem sEq_of {a b : ByteArray} (h : a = b) : sEq a b = true := decide_eq_true h
theorem nb {b : Bool} (h : ¬ b = true) : b = false := by cases b <;> simp at h ⊢
theorem nnb {b : Bool} (h : ¬ (!b) = true) : b = true := by cases b <;> simp at h ⊢

theorem ix_eq {α : Type} [Inhabited α] {l : List α} {i : Nat} (h : i < l.length) : l[i] = ix l i := by
  have := ix_get h
  rw [List.getElem?_eq_getElem h] at this
  injection this
theorem ix_mem {α : Type} [Inhabited α] {l : List α} {k : Nat} (h : k < l.length) : ix l k ∈ l := by rw [← ix_eq h]; exact List.getElem_mem h
theorem mem_ix {α : Type} [Inhabited α] {l : List α} {x : α} (h : x ∈ l) : ∃ k, k < l.length ∧ ix l k = x := by
  obtain ⟨j, hj, he⟩ := List.mem_iff_getElem.1 h
  exact ⟨j, hj, by rw [← ix_eq hj]; exact he⟩
theorem fnd_no {α : Type} [Inhabited α] {p : α → Bool} {l : List α} (h : ∀ q, q < l.length → p (ix l q) = false) : l.find? p = none := by
  rw [List.find?_eq_none]
  intro x hx
  obtain ⟨k, hk, he⟩ := mem_ix hx
  rw [← he, h k hk]; simp
theorem fnd_at {α : Type} [Inhabited α] {p : α → Bool} {l : List α} {k : Nat} (hk : k < l.length) (h : ∀ q, q < k → p (ix l q) = false) (hp : p (ix l k) = true) : l.find? p = some (ix l k) := by
  rw [List.find?_eq_some_iff_getElem]
  refine ⟨hp, k, hk, ix_eq hk, fun j hj => ?_⟩
  rw [ix_eq (by omega), h j hj]; rfl
theorem any_at {α : Type} [Inhabited α] {p : α → Bool} {l : List α} {k : Nat} (hk : k < l.length) (hp : p (ix l k) = true) : l.any p = true := by
  rw [List.any_eq_true]; exact ⟨_, ix_mem hk, hp⟩
theorem any_no {α : Type} [Inhabited α] {p : α → Bool} {l : List α} (h : ∀ q, q < l.length → p (ix l q) = false) : l.any p = false := by
  rw [List.any_eq_false]
  intro x hx
  obtain ⟨k, hk, he⟩ := mem_ix hx
  rw [← he, h k hk]; simp
theorem all_no {α : Type} [Inhabited α] {p : α → Bool} {l : List α} {k : Nat} (hk : k < l.length) (h : p (ix l k) = false) : l.all p = false := by
  rw [List.all_eq_false]; exact ⟨_, ix_mem hk, by rw [h]; simp⟩
theorem all_yes {α : Type} [Inhabited α] {p : α → Bool} {l : List α} (h : ∀ q, q < l.length → p (ix l q) = true) : l.all p = true := by
  rw [List.all_eq_true]
  intro x hx
  obtain ⟨k, hk, he⟩ := mem_ix hx
  rw [← he]; exact h k hk










theorem ix_app {α : Type} [Inhabited α] {l m : List α} {q : Nat} (h : l.length ≤ q) : ix (l ++ m) q = ix m (q - l.length) := by
  unfold ix
  rw [List.getD_eq_getElem?_getD, List.getD_eq_getElem?_getD, List.getElem?_append_right h]
theorem ix_drop {α : Type} [Inhabited α] (l : List α) (k q : Nat) : ix (l.drop k) q = ix l (k + q) := by unfold ix; rw [List.getD_eq_getElem?_getD, List.getD_eq_getElem?_getD, List.getElem?_drop]

theorem tD_set {α : Type} {e : α → List DV} {l : List α} {k : Nat} {x : α} {y : List OC} (hy : y = (e x).map OC.dv) : (tD e l).set k y = tD e (l.set k x) := by
  rw [hy]
  unfold tD
  rw [List.map_set, List.map_set]

theorem tD_same {α : Type} [Inhabited α] {e : α → List DV} {l : List α} {k : Nat} (h : k < l.length) {y : List OC} (hy : y = (e (ix l k)).map OC.dv) : (tD e l).set k y = tD e l := by
  apply List.ext_getElem?
  intro i
  rw [List.getElem?_set]
  by_cases hi : k = i
  · subst hi
    rw [if_pos rfl, if_pos (by rw [tD_len]; exact h), tD_at h, hy]
  · rw [if_neg hi]

def pd (seq : Int) (x : Fil) : Bool := decide (x.seq ≤ seq)
def dlF (seq : Int) (l : List Fil) (n : Nat) : List Fil := (l.take n).filter fun x => !(pd seq x)
def rwF (seq : Int) (l : List Fil) (n : Nat) : List Fil := dlF seq l n ++ l.drop (dlF seq l n).length
theorem dlF_y {seq : Int} {l : List Fil} {k : Nat} (hk : k < l.length) (h : pd seq (ix l k) = true) : dlF seq l (k + 1) = dlF seq l k := by
  unfold dlF
  rw [take_ix hk, List.filter_append]
  simp [h]
theorem dlF_n {seq : Int} {l : List Fil} {k : Nat} (hk : k < l.length) (h : pd seq (ix l k) = false) : dlF seq l (k + 1) = dlF seq l k ++ [ix l k] := by
  unfold dlF
  rw [take_ix hk, List.filter_append]
  simp [h]
theorem dlF_len (seq : Int) (l : List Fil) (n : Nat) : (dlF seq l n).length ≤ n := by
  unfold dlF
  have := List.length_filter_le (fun x => !(pd seq x)) (l.take n)
  rw [List.length_take] at this; omega
theorem dlF_all {seq : Int} {l : List Fil} : ∀ n, n ≤ l.length → (∀ q, q < n → pd seq (ix l q) = false) → dlF seq l n = l.take n
  | 0, _, _ => by simp [dlF]
  | n + 1, h, hq => by
    rw [dlF_n (by omega) (hq n (by omega)), dlF_all n (by omega) (fun q h1 => hq q (by omega)), take_ix (by omega)]
theorem rwF_len {seq : Int} {l : List Fil} {n : Nat} (h : n ≤ l.length) : (rwF seq l n).length = l.length := by
  have := dlF_len seq l n
  unfold rwF
  rw [List.length_append, List.length_drop]; omega
theorem rwF_ix {seq : Int} {l : List Fil} {n q : Nat} (h : (dlF seq l n).length ≤ q) : ix (rwF seq l n) q = ix l q := by
  unfold rwF
  rw [ix_app h, ix_drop]; congr 1; omega
theorem rwF_start {seq : Int} {l : List Fil} {k : Nat} (hk : k < l.length) (hq : ∀ q, q < k → pd seq (ix l q) = false) (h : pd seq (ix l k) = true) : rwF seq l (k + 1) = l ∧ (dlF seq l (k + 1)).length = k := by
  have e : dlF seq l (k + 1) = l.take k := (dlF_y hk h).trans (dlF_all k (by omega) hq)
  have el : (l.take k).length = k := by rw [List.length_take]; omega
  unfold rwF
  rw [e, el, List.take_append_drop]; exact ⟨rfl, rfl⟩
theorem rwF_set {seq : Int} {l : List Fil} {n : Nat} (hn : n < l.length) (hk : (dlF seq l n).length < l.length) (h : pd seq (ix l n) = false) : (rwF seq l n).set (dlF seq l n).length (ix l n) = rwF seq l (n + 1) := by
  unfold rwF
  rw [dlF_n hn h, List.set_append_right _ _ (Nat.le_refl _), Nat.sub_self, List.drop_eq_getElem_cons hk, List.set_cons_zero, List.length_append, List.append_assoc]
  rfl
theorem rwF_end (seq : Int) (l : List Fil) (n : Nat) : (rwF seq l n).take (dlF seq l n).length = dlF seq l n := by unfold rwF; rw [List.take_append, List.take_of_length_le (Nat.le_refl _), Nat.sub_self, List.take_zero, List.append_nil]
def iF (seq : Int) (l : List Fil) : Int := match l.findIdx? (pd seq) with
  | some i => i
  | none => -1
theorem iF_at {seq : Int} {l : List Fil} {k : Nat} (hk : k < l.length) (hq : ∀ q, q < k → pd seq (ix l q) = false) (h : pd seq (ix l k) = true) : iF seq l = k := by
  unfold iF
  rw [show l.findIdx? (pd seq) = some k from by
    rw [List.findIdx?_eq_some_iff_getElem]
    refine ⟨hk, by rw [ix_eq hk]; exact h, fun j hj => ?_⟩
    rw [ix_eq (by omega)]
    simpa using hq j hj]
theorem iF_no {seq : Int} {l : List Fil} (hq : ∀ q, q < l.length → pd seq (ix l q) = false) : iF seq l = -1 := by
  unfold iF
  rw [show l.findIdx? (pd seq) = none from by
    rw [List.findIdx?_eq_none_iff]
    intro x hx
    obtain ⟨q, h1, rfl⟩ := mem_ix hx
    exact hq q h1]
theorem iF_none {seq : Int} {l : List Fil} (h : (iF seq l == -1) = true) : dlF seq l l.length = l := by
  have hq : ∀ q, q < l.length → pd seq (ix l q) = false := by
    unfold iF at h
    cases e : l.findIdx? (pd seq) with
    | none =>
      rw [List.findIdx?_eq_none_iff] at e
      exact fun q hq => e _ (ix_mem hq)
    | some i =>
      rw [e] at h
      have : ((i : Int) == -1) = true := h
      have := eq_of_beq this
      omega
  rw [dlF_all _ (Nat.le_refl _) hq, List.take_length]
theorem iF_some {seq : Int} {l : List Fil} (h : (iF seq l == -1) = false) : ∃ k : Nat, iF seq l = (k : Int) ∧ k < l.length ∧ (∀ q, q < k → pd seq (ix l q) = false) ∧ pd seq (ix l k) = true := by
  unfold iF at h ⊢
  cases e : l.findIdx? (pd seq) with
  | none => rw [e] at h; cases h
  | some i =>
    rw [List.findIdx?_eq_some_iff_getElem] at e
    obtain ⟨h1, h2, h3⟩ := e
    refine ⟨i, rfl, h1, fun q hq => ?_, by rw [← ix_eq h1]; exact h2⟩
    have := h3 q hq
    rw [ix_eq (by omega)] at this
    simpa using this
def akP (p : Ptn) (seq : Int) : Ptn := bif (decide (seq < 0) || decide (p.out ≤ seq)) then p else ⟨p.name, p.out, p.inn, dlF seq p.wait p.wait.length, p.ours, p.theirs⟩
def akE (p : Ptn) (seq : Int) : Int := bif (decide (seq < 0) || decide (p.out ≤ seq)) then 31 else 0
theorem ak_bad {p : Ptn} {seq : Int} (h : (decide (seq < 0) || decide (p.out ≤ seq)) = true) : akP p seq = p ∧ akE p seq = 31 := by unfold akP akE; rw [h]; exact ⟨rfl, rfl⟩
theorem ak_ok {p : Ptn} {seq : Int} (h : (decide (seq < 0) || decide (p.out ≤ seq)) = false) : akP p seq = ⟨p.name, p.out, p.inn, dlF seq p.wait p.wait.length, p.ours, p.theirs⟩ ∧ akE p seq = 0 := by unfold akP akE; rw [h]; exact ⟨rfl, rfl⟩
theorem seg1 {l : List Fil} {k : Nat} (hk : k < l.length) : (l.drop k).take (k + 1 - k) = [ix l k] := by
  rw [show k + 1 - k = 1 by omega, List.drop_eq_getElem_cons hk, List.take_succ_cons, List.take_zero, ix_eq hk]
def hvB (l : List Rec) : Bool := decide (1100 < (l.length : Int)) || l.any fun x => decide (300 < (x.key.size : Int))
def sm (l : List Fil) : Nat → Int
  | 0 => 0
  | k + 1 => sm l k + ((ix l k).recs.length : Int)
def gb (l : List Fil) (k : Nat) : Bool := decide (2000 < sm l (k + 1)) || hvB (ix l k).recs
def grW (l : List Fil) : Bool := (List.range l.length).any (gb l)
theorem gr_at {l : List Fil} {k : Nat} (hk : k < l.length) (h : gb l k = true) : grW l = true := List.any_eq_true.2 ⟨k, List.mem_range.2 hk, h⟩
theorem gr_no {l : List Fil} (h : ∀ q, q < l.length → gb l q = false) : grW l = false := List.any_eq_false.2 fun q hq => by rw [h q (List.mem_range.1 hq)]; simp
def grB (p : Ptn) : Bool := ((hvB p.ours || hvB p.theirs) || decide (40 < (p.wait.length : Int))) || grW p.wait
theorem hv_l {l : List Rec} (h : hvB l = false) : l.length ≤ 1100 := by
  unfold hvB at h
  simp only [Bool.or_eq_false_iff, decide_eq_false_iff_not] at h
  omega
theorem sm_in {l : List Fil} : ∀ k, 0 ≤ sm l k
  | 0 => Int.le_refl _
  | k + 1 => by
    have := sm_in (l := l) k
    simp only [sm]; omega
theorem sm_le {l : List Fil} {k : Nat} (hk : k < l.length) (hq : ∀ q, q < k → gb l q = false) : sm l k ≤ 2000 := by
  cases k with
  | zero => show (0 : Int) ≤ 2000; omega
  | succ k =>
    have h := hq k (by omega)
    unfold gb at h
    simp only [Bool.or_eq_false_iff, decide_eq_false_iff_not] at h
    omega
structure okP (p : Ptn) : Prop where
  o : p.ours.length ≤ 1100
  t : p.theirs.length ≤ 1100
  w : p.wait.length ≤ 40
  r : ∀ x ∈ p.wait, x.recs.length ≤ 1100
theorem grB_f {p : Ptn} (h : grB p = false) : okP p := by
  unfold grB at h
  simp only [Bool.or_eq_false_iff, decide_eq_false_iff_not] at h
  obtain ⟨⟨⟨h1, h2⟩, h3⟩, h4⟩ := h
  refine ⟨hv_l h1, hv_l h2, by omega, fun x hx => ?_⟩
  obtain ⟨q, hq, rfl⟩ := mem_ix hx
  unfold grW at h4
  have := List.any_eq_false.1 h4 q (List.mem_range.2 hq)
  unfold gb at this
  simp only [Bool.or_eq_true, not_or, Bool.not_eq_true] at this
  exact hv_l this.2

set_option maxHeartbeats 4000000 in
set_option maxRecDepth 100000 in
theorem cloF (l : List Fil) (hl : l.length ≤ 2000) : CtrO Try.prog 40 [.sl 4 (List.map eFil l)] (.tr 34 4 (tD eFil l)) := by
  refine ctrO (n := 8) (rs := #[.tmp 2]) (L := [(0, .d (.sl 4 (List.map eFil l)))]) Try.func40 rfl rfl rfl rfl rfl (fun w0 U0 => ?_)
  refine a_rseq ?_
  refine rg_put (d := 2) (v := .d (.fl (.slice none 0 0))) rfl (og rfl (op_assign rfl rfl rfl)) ?_
  refine rg_done rfl ?_
  refine a_seq ?_
  refine a_rseq ?_
  refine rg_put (d := 3) (v := .d (.sl 4 (List.map eFil l))) rfl (og rfl (op_move rfl rfl rfl)) ?_
  refine rg_isnil rfl rfl rfl Try.underlying25 rfl rfl rfl (fun bh1 nh1 => ?_)
  refine rg_done rfl ?_
  refine a_cond rfl (fun h2 => ?_) (fun h2 => ?_)
  · skip
    refine a_rseq ?_
    refine rg_put (d := 2) (v := .d (.fl (.slice none 0 0))) rfl (og rfl (op_assign rfl rfl rfl)) ?_
    refine rg_done rfl ?_
    have hnil : l = [] := by simpa using nh1 h2
    subst hnil
    refine a_imp (imp_nilT 2 101 34 4 rfl rfl) ?_
    refine a_ret ?_
    show ∃ rv, _ = #[rv] ∧ ResO _ _ rv _
    exact ⟨_, rfl, .tmp rfl rfl⟩
  · skip
    refine a_skip ?_
    show A _ _ _ _ _ _ _
    refine a_rseq ?_
    refine rg_nam (d := 5) (v := .ow 102) (m := 102) (nw := [(102, .tr 34 4 (tD eFil []))]) rfl (og rfl (of_eff (op_slice0 102 rfl Try.underlying25 ti34 rfl) rfl)) rfl ?_
    refine rg_put (d := 6) (v := .d (.sl 4 (List.map eFil l))) rfl (og rfl (op_move rfl rfl rfl)) ?_
    refine rg_nam (d := 7) (v := .ow 103) (m := 103) (nw := [(103, .tr 34 4 (tD eFil ([] ++ l))), (102, .no)]) rfl (og rfl (of_eff (s_append_td 103 rfl Try.underlying25 ti34 rfl rfl rfl rfl rfl (.d _) (by simp only [List.length_nil]; omega) rfl) rfl)) rfl ?_
    refine rg_put (d := 2) (v := .ow 103) rfl (og rfl (op_assign rfl rfl rfl)) ?_
    refine rg_done rfl ?_
    refine a_ret ?_
    show ∃ rv, _ = #[rv] ∧ ResO _ _ rv _
    exact ⟨_, rfl, .tmp rfl rfl⟩
set_option maxHeartbeats 4000000 in
set_option maxRecDepth 100000 in
theorem cloR (l : List Rec) (hl : l.length ≤ 2000) : CtrO Try.prog 25 [.sl 5 (List.map eRec l)] (.tr 43 5 (tD eRec l)) := by
  refine ctrO (n := 8) (rs := #[.tmp 2]) (L := [(0, .d (.sl 5 (List.map eRec l)))]) Try.func25 rfl rfl rfl rfl rfl (fun w0 U0 => ?_)
  refine a_rseq ?_
  refine rg_put (d := 2) (v := .d (.fl (.slice none 0 0))) rfl (og rfl (op_assign rfl rfl rfl)) ?_
  refine rg_done rfl ?_
  refine a_seq ?_
  refine a_rseq ?_
  refine rg_put (d := 3) (v := .d (.sl 5 (List.map eRec l))) rfl (og rfl (op_move rfl rfl rfl)) ?_
  refine rg_isnil rfl rfl rfl Try.underlying26 rfl rfl rfl (fun bh1 nh1 => ?_)
  refine rg_done rfl ?_
  refine a_cond rfl (fun h2 => ?_) (fun h2 => ?_)
  · skip
    refine a_rseq ?_
    refine rg_put (d := 2) (v := .d (.fl (.slice none 0 0))) rfl (og rfl (op_assign rfl rfl rfl)) ?_
    refine rg_done rfl ?_
    have hnil : l = [] := by simpa using nh1 h2
    subst hnil
    refine a_imp (imp_nilT 2 101 43 5 rfl rfl) ?_
    refine a_ret ?_
    show ∃ rv, _ = #[rv] ∧ ResO _ _ rv _
    exact ⟨_, rfl, .tmp rfl rfl⟩
  · skip
    refine a_skip ?_
    show A _ _ _ _ _ _ _
    refine a_rseq ?_
    refine rg_nam (d := 5) (v := .ow 102) (m := 102) (nw := [(102, .tr 43 5 (tD eRec []))]) rfl (og rfl (of_eff (op_slice0 102 rfl Try.underlying26 ti43 rfl) rfl)) rfl ?_
    refine rg_put (d := 6) (v := .d (.sl 5 (List.map eRec l))) rfl (og rfl (op_move rfl rfl rfl)) ?_
    refine rg_nam (d := 7) (v := .ow 103) (m := 103) (nw := [(103, .tr 43 5 (tD eRec ([] ++ l))), (102, .no)]) rfl (og rfl (of_eff (s_append_td 103 rfl Try.underlying26 ti43 rfl rfl rfl rfl rfl (.d _) (by simp only [List.length_nil]; omega) rfl) rfl)) rfl ?_
    refine rg_put (d := 2) (v := .ow 103) rfl (og rfl (op_assign rfl rfl rfl)) ?_
    refine rg_done rfl ?_
    refine a_ret ?_
    show ∃ rv, _ = #[rv] ∧ ResO _ _ rv _
    exact ⟨_, rfl, .tmp rfl rfl⟩
set_option maxHeartbeats 4000000 in
set_option maxRecDepth 100000 in
theorem freshF (x : Fil) (h1 : x.recs.length ≤ 1100) : CtrO Try.prog 17 [.ag (eFil x)] (.sv [.dv (.fl (.string x.fr)), .dv (.fl (.string x.to)), .dv (.fl (.int .i64 x.seq)), .ow 43 5 (List.map eRec x.recs)]) := by
  refine ctrO (n := 8) (rs := #[.cell 2 34]) (L := [(0, .d (.ag (eFil x)))]) Try.func17 rfl rfl rfl rfl rfl (fun w0 U0 => ?_)
  refine a_rseq ?_
  refine rg_nam (d := 1) (v := .pt 101 0) (m := 101) (nw := [(101, .bx 34 (eFil x))]) rfl (og rfl (of_eff (op_box 101 rfl rfl rfl rfl) rfl)) rfl ?_
  refine rg_nam (d := 2) (v := .pt 102 0) (m := 102) (nw := [(102, .bx 34 ([.fl (.string (⟨#[]⟩)), .fl (.string (⟨#[]⟩)), .fl (.int .i64 0), .fl (.slice none 0 0)]))]) rfl (og rfl (of_eff (s_alloc 102 rfl ti34 (by kernel_rfl) rfl) rfl)) rfl ?_
  refine rg_done rfl ?_
  refine a_rseq ?_
  refine rg_imp (imp_bt 101 rfl) ?_
  refine rg_imp (imp_bt 102 rfl) ?_
  refine rg_put (d := 3) (v := .pt 101 3) rfl (og rfl (of_eff (s_field_pt rfl Try.underlying34 rfl ti26 rfl rfl rfl) rfl)) ?_
  refine rg_put (d := 4) (v := .d (.sl 5 (List.map eRec x.recs))) rfl (og rfl (op_load_bt rfl Try.underlying26 rfl rfl rfl rfl rfl)) ?_
  refine rg_nam (d := 5) (v := .ow 103) (m := 103) (nw := [(103, .tr 43 5 (tD eRec x.recs))]) rfl (og rfl (of_eff (op_callO 103 rfl Try.func25 nm25 rfl (.cons rfl (.d _) .nil) (cloR x.recs (by omega)) rfl) rfl)) rfl ?_
  refine rg_put (d := 6) (v := .pt 101 3) rfl (og rfl (of_eff (s_field_pt rfl Try.underlying34 rfl ti26 rfl rfl rfl) rfl)) ?_
  refine rg_sto (nw := [(101, .bt 34 [.dv (.fl (.string x.fr)), .dv (.fl (.string x.to)), .dv (.fl (.int .i64 x.seq)), .ow 43 5 (List.map eRec x.recs)]), (103, .no)]) rfl (og rfl (of_eff (op_store_bt rfl rfl ti26 rfl rfl rfl (.tr rfl) rfl rfl rfl) rfl)) ?_
  refine rg_done rfl ?_
  refine a_rseq ?_
  refine rg_nam (d := 7) (v := .ow 104) (m := 104) (nw := [(104, .sv [.dv (.fl (.string x.fr)), .dv (.fl (.string x.to)), .dv (.fl (.int .i64 x.seq)), .ow 43 5 (List.map eRec x.recs)]), (101, .no)]) rfl (og rfl (of_eff (op_move_bt 104 rfl Try.underlying34 rfl ti34 rfl rfl rfl rfl) rfl)) rfl ?_
  refine rg_sto (nw := [(102, .bt 34 [.dv (.fl (.string x.fr)), .dv (.fl (.string x.to)), .dv (.fl (.int .i64 x.seq)), .ow 43 5 (List.map eRec x.recs)]), (104, .no)]) rfl (og rfl (of_eff (op_store_bt rfl rfl ti34 rfl rfl rfl (.sv rfl) rfl rfl rfl) rfl)) ?_
  refine rg_done rfl ?_
  refine a_ret ?_
  show ∃ rv, _ = #[rv] ∧ ResO _ _ rv _
  exact ⟨_, rfl, .cell rfl rfl Try.underlying34 rfl ti34 rfl⟩
theorem copyF (x : Fil) (h1 : x.recs.length ≤ 1100) : Ctr Try.prog 17 [.ag (eFil x)] (.d (.ag (eFil x))) := ctr_of_O (freshF x h1) rfl
set_option maxHeartbeats 4000000 in
set_option maxRecDepth 100000 in
theorem lisF (l : List Fil) (hl : l.length ≤ 1000) (hz : ∀ x ∈ l, x.recs.length ≤ 1100) : CtrO Try.prog 31 [.sl 4 (List.map eFil l), .fn 17 []] (.tr 34 4 (tD eFil l)) := by
  refine ctrO (n := 25) (rs := #[.tmp 4]) (L := [(0, .d (.sl 4 (List.map eFil l))), (1, .d (.fn 17 []))]) Try.func31 rfl rfl rfl rfl rfl (fun w0 U0 => ?_)
  refine a_rseq ?_
  refine rg_put (d := 4) (v := .d (.fl (.slice none 0 0))) rfl (og rfl (op_assign rfl rfl rfl)) ?_
  refine rg_done rfl ?_
  refine a_rseq ?_
  refine rg_put (d := 7) (v := .d (.sl 4 (List.map eFil l))) rfl (og rfl (op_move rfl rfl rfl)) ?_
  refine rg_nam (d := 8) (v := .ow 101) (m := 101) (nw := [(101, .tr 34 4 (tD eFil l))]) rfl (og rfl (of_eff (op_callO 101 rfl Try.func40 nm40 rfl (.cons rfl (.d _) .nil) (cloF l (by omega)) rfl) rfl)) rfl ?_
  refine rg_put (d := 5) (v := .ow 101) rfl (og rfl (op_assign rfl rfl rfl)) ?_
  refine rg_done rfl ?_
  refine a_seq ?_
  refine a_rseq ?_
  refine rg_put (d := 9) (v := .ow 101) rfl (og rfl (op_move rfl rfl rfl)) ?_
  refine rg_put (d := 10) (v := .d (.fl (.int .i64 (((l).length : Int))))) rfl (og rfl (op_len_tr rfl Try.underlying25 rfl rfl tD_len rfl)) ?_
  refine rg_put (d := 11) (v := .d (.fl (.int .i64 0))) rfl (og rfl (op_move rfl rfl rfl)) ?_
  refine rg_done rfl ?_
  refine a_block ?_
  refine a_loop (ι := Nat) (fun k => SS [(0, .d (.sl 4 (List.map eFil l))), (1, .d (.fn 17 [])), (4, .d (.fl (.slice none 0 0))), (5, .ow 101), (10, .d (.fl (.int .i64 (((l).length : Int))))), (11, .d (.fl (.int .i64 (k : Int))))] [(101, .tr 34 4 (tD eFil l))]) (fun k => k ≤ l.length) (fun k => l.length - k) 0 (by omega) (imp_forget rfl ⟨rfl, rfl, rfl, (by first | rfl | exact ci (by omega) | exact ci (by simp) | exact cd (by simp) | simp), rfl, (by first | rfl | exact ci (by omega) | exact ci (by simp) | exact cd (by simp) | simp), trivial⟩ ⟨(by first | rfl | simp), trivial⟩) (fun k hok => ?_)
  have hk := hok
  refine a_rseq ?_
  refine rg_put (d := 12) (v := .d (.fl (.bool ((decide ((k : Int) < ((l).length : Int))))))) rfl (og rfl (op_bin rfl rfl rfl (b_lss _ _ _ _) rfl)) ?_
  refine rg_done rfl ?_
  refine a_seq ?_
  refine a_cond rfl (fun h1 => ?_) (fun h1 => ?_)
  · skip
    have h2 := t_dec h1
    refine a_skip ?_
    show A _ _ _ _ _ _ _
    refine a_seq ?_
    refine a_block ?_
    refine a_rseq ?_
    refine rg_put (d := 13) (v := .d (.fl (.int .i64 (k : Int)))) rfl (og rfl (op_move rfl rfl rfl)) ?_
    refine rg_put (d := 6) (v := .d (.fl (.int .i64 (k : Int)))) rfl (og rfl (op_assign rfl rfl rfl)) ?_
    refine rg_done rfl ?_
    refine a_region ?_
    refine rg_put (d := 14) (v := .ow 101) rfl (og rfl (op_move rfl rfl rfl)) ?_
    refine rg_put (d := 15) (v := .d (.fl (.int .i64 (k : Int)))) rfl (og rfl (op_move rfl rfl rfl)) ?_
    refine rg_put (d := 16) (v := .d (.fn 17 [])) rfl (og rfl (op_move rfl rfl rfl)) ?_
    refine rg_put (d := 17) (v := .ow 101) rfl (og rfl (op_move rfl rfl rfl)) ?_
    refine rg_put (d := 18) (v := .d (.fl (.int .i64 (k : Int)))) rfl (og rfl (op_move rfl rfl rfl)) ?_
    refine rg_put (d := 19) (v := .pe 101 4 k 0) rfl (og rfl (op_index_tr rfl Try.underlying25 ti34 rfl rfl rfl (get_lt (tD_at (by omega))) rfl)) ?_
    refine rg_put (d := 20) (v := .d (.ag (eFil (ix l k)))) rfl (og rfl (of_eff (op_load_pes rfl Try.underlying34 rfl ti34 rfl rfl (tD_at (by omega)) rfl rfl rfl) rfl)) ?_
    refine rg_put (d := 21) (v := .d (.ag (eFil (ix l k)))) rfl (og rfl (op_callV rfl rfl ⟨_, Try.func17, nm17, rfl⟩ (.cons rfl (.d _) .nil) (copyF (ix l k) (hz _ (ix_mem (by omega)))) rfl)) ?_
    refine rg_put (d := 22) (v := .pe 101 4 k 0) rfl (og rfl (op_index_tr rfl Try.underlying25 ti34 rfl rfl rfl (get_lt (tD_at (by omega))) rfl)) ?_
    refine rg_sto (nw := [(101, .tr 34 4 (((tD eFil l).set k [.dv (.fl (.string ((ix l k).fr))), .dv (.fl (.string ((ix l k).to))), .dv (.fl (.int .i64 ((ix l k).seq))), .dv (.sl 5 (List.map eRec ((ix l k).recs)))])))]) rfl (og rfl (of_eff (op_store_pe rfl rfl ti34 rfl rfl (tD_at (by omega)) rfl (.d rfl) rfl rfl rfl) rfl)) ?_
    refine rg_done rfl ?_
    show A _ _ _ _ _ _ _
    refine a_region ?_
    refine rg_put (d := 23) (v := .d (.fl (.int .i64 (((k : Int) + 1))))) rfl (og rfl (op_bin rfl rfl rfl (fun x y w => b_add64 _ _ _ x y w (by omega)) rfl)) ?_
    refine rg_put (d := 11) (v := .d (.fl (.int .i64 (((k : Int) + 1))))) rfl (og rfl (op_move rfl rfl rfl)) ?_
    refine rg_done rfl ?_
    show ∃ i, _ ∧ _ ∧ Imp _ _ _ _ _
    refine ⟨k + 1, (by omega), by omega, imp_forget rfl ⟨rfl, rfl, rfl, rfl, rfl, (by first | rfl | exact ci (by omega) | exact ci (by simp) | exact cd (by simp) | simp), trivial⟩ ⟨(congrArg (fun z => Ob.tr 34 4 z) (tD_same (by omega) rfl)), trivial⟩⟩
  · skip
    have h3 := f_dec h1
    refine a_exit ?_
    show A _ _ _ _ _ _ _
    refine a_rseq ?_
    refine rg_put (d := 24) (v := .ow 101) rfl (og rfl (op_move rfl rfl rfl)) ?_
    refine rg_put (d := 4) (v := .ow 101) rfl (og rfl (op_assign rfl rfl rfl)) ?_
    refine rg_done rfl ?_
    refine a_ret ?_
    show ∃ rv, _ = #[rv] ∧ ResO _ _ rv _
    exact ⟨_, rfl, .tmp rfl rfl⟩
set_option maxHeartbeats 4000000 in
set_option maxRecDepth 100000 in
theorem frsF (l : List Fil) (hl : l.length ≤ 1000) (hz : ∀ x ∈ l, x.recs.length ≤ 1100) : CtrO Try.prog 24 [.sl 4 (List.map eFil l)] (.tr 34 4 (tD eFil l)) := by
  refine ctrO (n := 5) (rs := #[.tmp 2]) (L := [(0, .d (.sl 4 (List.map eFil l)))]) Try.func24 rfl rfl rfl rfl rfl (fun w0 U0 => ?_)
  refine a_rseq ?_
  refine rg_put (d := 2) (v := .d (.fl (.slice none 0 0))) rfl (og rfl (op_assign rfl rfl rfl)) ?_
  refine rg_done rfl ?_
  refine a_rseq ?_
  refine rg_put (d := 3) (v := .d (.sl 4 (List.map eFil l))) rfl (og rfl (op_move rfl rfl rfl)) ?_
  refine rg_nam (d := 4) (v := .ow 101) (m := 101) (nw := [(101, .tr 34 4 (tD eFil l))]) rfl (og rfl (of_eff (op_callO 101 rfl Try.func31 nm31 rfl (.cons rfl (.d _) (.cons rfl (.d _) .nil)) (lisF l hl hz) rfl) rfl)) rfl ?_
  refine rg_put (d := 2) (v := .ow 101) rfl (og rfl (op_assign rfl rfl rfl)) ?_
  refine rg_done rfl ?_
  refine a_ret ?_
  show ∃ rv, _ = #[rv] ∧ ResO _ _ rv _
  exact ⟨_, rfl, .tmp rfl rfl⟩
set_option maxHeartbeats 4000000 in
set_option maxRecDepth 100000 in
theorem freshP (p : Ptn) (hp : okP p) : CtrO Try.prog 19 [.ag (ePt p)] (.sv [.dv (.fl (.string p.name)), .dv (.fl (.int .i64 p.out)), .dv (.fl (.int .i64 p.inn)), .ow 34 4 (List.map eFil p.wait), .ow 43 5 (List.map eRec p.ours), .ow 43 5 (List.map eRec p.theirs)]) := by
  refine ctrO (n := 16) (rs := #[.cell 2 28]) (L := [(0, .d (.ag (ePt p)))]) Try.func19 rfl rfl rfl rfl rfl (fun w0 U0 => ?_)
  refine a_rseq ?_
  refine rg_nam (d := 1) (v := .pt 101 0) (m := 101) (nw := [(101, .bx 28 (ePt p))]) rfl (og rfl (of_eff (op_box 101 rfl rfl rfl rfl) rfl)) rfl ?_
  refine rg_nam (d := 2) (v := .pt 102 0) (m := 102) (nw := [(102, .bx 28 ([.fl (.string (⟨#[]⟩)), .fl (.int .i64 0), .fl (.int .i64 0), .fl (.slice none 0 0), .fl (.slice none 0 0), .fl (.slice none 0 0)]))]) rfl (og rfl (of_eff (s_alloc 102 rfl ti28 (by kernel_rfl) rfl) rfl)) rfl ?_
  refine rg_done rfl ?_
  refine a_rseq ?_
  refine rg_imp (imp_bt 101 rfl) ?_
  refine rg_imp (imp_bt 102 rfl) ?_
  refine rg_put (d := 3) (v := .pt 101 3) rfl (og rfl (of_eff (s_field_pt rfl Try.underlying28 rfl ti25 rfl rfl rfl) rfl)) ?_
  refine rg_put (d := 4) (v := .d (.sl 4 (List.map eFil p.wait))) rfl (og rfl (op_load_bt rfl Try.underlying25 rfl rfl rfl rfl rfl)) ?_
  refine rg_nam (d := 5) (v := .ow 103) (m := 103) (nw := [(103, .tr 34 4 (tD eFil p.wait))]) rfl (og rfl (of_eff (op_callO 103 rfl Try.func24 nm24 rfl (.cons rfl (.d _) .nil) (frsF p.wait (by have := hp.w; omega) hp.r) rfl) rfl)) rfl ?_
  refine rg_put (d := 6) (v := .pt 101 3) rfl (og rfl (of_eff (s_field_pt rfl Try.underlying28 rfl ti25 rfl rfl rfl) rfl)) ?_
  refine rg_sto (nw := [(101, .bt 28 [.dv (.fl (.string p.name)), .dv (.fl (.int .i64 p.out)), .dv (.fl (.int .i64 p.inn)), .ow 34 4 (List.map eFil p.wait), .dv (.sl 5 (List.map eRec p.ours)), .dv (.sl 5 (List.map eRec p.theirs))]), (103, .no)]) rfl (og rfl (of_eff (op_store_bt rfl rfl ti25 rfl rfl rfl (.tr rfl) rfl rfl rfl) rfl)) ?_
  refine rg_done rfl ?_
  refine a_rseq ?_
  refine rg_put (d := 7) (v := .pt 101 4) rfl (og rfl (of_eff (s_field_pt rfl Try.underlying28 rfl ti26 rfl rfl rfl) rfl)) ?_
  refine rg_put (d := 8) (v := .d (.sl 5 (List.map eRec p.ours))) rfl (og rfl (op_load_bt rfl Try.underlying26 rfl rfl rfl rfl rfl)) ?_
  refine rg_nam (d := 9) (v := .ow 104) (m := 104) (nw := [(104, .tr 43 5 (tD eRec p.ours))]) rfl (og rfl (of_eff (op_callO 104 rfl Try.func25 nm25 rfl (.cons rfl (.d _) .nil) (cloR p.ours (by have := hp.o; have := hp.t; omega)) rfl) rfl)) rfl ?_
  refine rg_put (d := 10) (v := .pt 101 4) rfl (og rfl (of_eff (s_field_pt rfl Try.underlying28 rfl ti26 rfl rfl rfl) rfl)) ?_
  refine rg_sto (nw := [(101, .bt 28 [.dv (.fl (.string p.name)), .dv (.fl (.int .i64 p.out)), .dv (.fl (.int .i64 p.inn)), .ow 34 4 (List.map eFil p.wait), .ow 43 5 (List.map eRec p.ours), .dv (.sl 5 (List.map eRec p.theirs))]), (104, .no)]) rfl (og rfl (of_eff (op_store_bt rfl rfl ti26 rfl rfl rfl (.tr rfl) rfl rfl rfl) rfl)) ?_
  refine rg_done rfl ?_
  refine a_rseq ?_
  refine rg_put (d := 11) (v := .pt 101 5) rfl (og rfl (of_eff (s_field_pt rfl Try.underlying28 rfl ti26 rfl rfl rfl) rfl)) ?_
  refine rg_put (d := 12) (v := .d (.sl 5 (List.map eRec p.theirs))) rfl (og rfl (op_load_bt rfl Try.underlying26 rfl rfl rfl rfl rfl)) ?_
  refine rg_nam (d := 13) (v := .ow 105) (m := 105) (nw := [(105, .tr 43 5 (tD eRec p.theirs))]) rfl (og rfl (of_eff (op_callO 105 rfl Try.func25 nm25 rfl (.cons rfl (.d _) .nil) (cloR p.theirs (by have := hp.o; have := hp.t; omega)) rfl) rfl)) rfl ?_
  refine rg_put (d := 14) (v := .pt 101 5) rfl (og rfl (of_eff (s_field_pt rfl Try.underlying28 rfl ti26 rfl rfl rfl) rfl)) ?_
  refine rg_sto (nw := [(101, .bt 28 [.dv (.fl (.string p.name)), .dv (.fl (.int .i64 p.out)), .dv (.fl (.int .i64 p.inn)), .ow 34 4 (List.map eFil p.wait), .ow 43 5 (List.map eRec p.ours), .ow 43 5 (List.map eRec p.theirs)]), (105, .no)]) rfl (og rfl (of_eff (op_store_bt rfl rfl ti26 rfl rfl rfl (.tr rfl) rfl rfl rfl) rfl)) ?_
  refine rg_done rfl ?_
  refine a_rseq ?_
  refine rg_nam (d := 15) (v := .ow 106) (m := 106) (nw := [(106, .sv [.dv (.fl (.string p.name)), .dv (.fl (.int .i64 p.out)), .dv (.fl (.int .i64 p.inn)), .ow 34 4 (List.map eFil p.wait), .ow 43 5 (List.map eRec p.ours), .ow 43 5 (List.map eRec p.theirs)]), (101, .no)]) rfl (og rfl (of_eff (op_move_bt 106 rfl Try.underlying28 rfl ti28 rfl rfl rfl rfl) rfl)) rfl ?_
  refine rg_sto (nw := [(102, .bt 28 [.dv (.fl (.string p.name)), .dv (.fl (.int .i64 p.out)), .dv (.fl (.int .i64 p.inn)), .ow 34 4 (List.map eFil p.wait), .ow 43 5 (List.map eRec p.ours), .ow 43 5 (List.map eRec p.theirs)]), (106, .no)]) rfl (og rfl (of_eff (op_store_bt rfl rfl ti28 rfl rfl rfl (.sv rfl) rfl rfl rfl) rfl)) ?_
  refine rg_done rfl ?_
  refine a_ret ?_
  show ∃ rv, _ = #[rv] ∧ ResO _ _ rv _
  exact ⟨_, rfl, .cell rfl rfl Try.underlying28 rfl ti28 rfl⟩
def fe (f : Nat → Int) : Nat → Nat → Int
  | _, 0 => 0
  | i, n + 1 => if f i = 0 then fe f (i + 1) n else f i
theorem fe_at {f : Nat → Int} {k n : Nat} (h : k < n) : fe f k (n - k) = if f k = 0 then fe f (k + 1) (n - (k + 1)) else f k := by
  rw [show n - k = (n - (k + 1)) + 1 by omega]; rfl
theorem fe_end {f : Nat → Int} {k n : Nat} (h : ¬ k < n) : fe f k (n - k) = 0 := by
  rw [show n - k = 0 by omega]; rfl
theorem fe_no {f : Nat → Int} {k n : Nat} {c : Int} (h : k < n) (hc : c = fe f k (n - k)) (hb : f k = 0) : c = fe f (k + 1) (n - (k + 1)) := by rw [hc, fe_at h, if_pos hb]
theorem fe_yes {f : Nat → Int} {k n : Nat} {c e : Int} (h : k < n) (hc : c = fe f k (n - k)) (hb : f k = e) (he : e ≠ 0) : c = e := by rw [hc, fe_at h, hb, if_neg he]
def fitB (n : Int) : Bool := decide (-1125899906842624 ≤ n) && decide (n ≤ 1125899906842624)
theorem fit_t {n : Int} (h : fitB n = true) : -1125899906842624 ≤ n ∧ n ≤ 1125899906842624 := by
  unfold fitB at h
  simp only [Bool.and_eq_true, decide_eq_true_eq] at h
  exact h
def sI (l : List Int) : Nat → Int
  | 0 => 0
  | k + 1 => sI l k + ix l k
theorem sI_in {l : List Int} : ∀ k, (∀ q, q < k → fitB (ix l q) = true) → -(1125899906842624 * (k : Int)) ≤ sI l k ∧ sI l k ≤ 1125899906842624 * (k : Int)
  | 0, _ => by simp [sI]
  | k + 1, h => by
    have ih := sI_in k (fun q hq => h q (by omega))
    have h1 := fit_t (h k (by omega))
    simp only [sI]
    omega
def tot (l : List Int) : Int × Int := bif l.all fitB then (bif fitB (sI l l.length) then (sI l l.length, 0) else (0, 13)) else (0, 13)
theorem tot_bad {l : List Int} {k : Nat} (hk : k < l.length) (h : fitB (ix l k) = false) : tot l = (0, 13) := by unfold tot; rw [all_no hk h]; rfl
theorem tot_end {l : List Int} (hq : ∀ q, q < l.length → fitB (ix l q) = true) : tot l = bif fitB (sI l l.length) then (sI l l.length, 0) else (0, 13) := by unfold tot; rw [all_yes hq]; rfl
def cF (x : Int) : Bool := decide (33 ≤ x) && decide (x ≤ 126)
theorem cF_no {x : Int} (h : x ≤ 32 ∨ 126 < x) : cF x = false := by simp only [cF, Bool.and_eq_false_iff, decide_eq_false_iff_not]; omega
theorem cF_yes {x : Int} (h : 33 ≤ x ∧ x ≤ 126) : cF x = true := by simp [cF]; omega
def Fldp (s : ByteArray) : Prop := ∀ q, q < s.size → cF ((bt s q).toNat : Int) = true
noncomputable def fldB (s : ByteArray) : Bool := (by classical exact decide (Fldp s)) && !(sEq s ⟨#[]⟩)
theorem fld_no {s : ByteArray} {k : Nat} (hk : k < s.size) (h : cF ((bt s k).toNat : Int) = false) : fldB s = false := by
  unfold fldB
  rw [@decide_eq_false _ (Classical.propDecidable _) (fun hp : Fldp s => by have := hp k hk; rw [h] at this; cases this)]; rfl
theorem fld_yes {s : ByteArray} (h : ∀ q, q < s.size → cF ((bt s q).toNat : Int) = true) : fldB s = !(sEq s ⟨#[]⟩) := by
  unfold fldB
  rw [@decide_eq_true _ (Classical.propDecidable _) (show Fldp s from h)]; rfl
def wd (k : Int) : ByteArray := bif k == 1 then ⟨#[99, 104, 97, 114, 103, 101]⟩ else bif k == 2 then ⟨#[99, 111, 114, 114, 101, 99, 116]⟩ else bif k == 3 then ⟨#[114, 101, 106, 101, 99, 116]⟩ else bif k == 4 then ⟨#[112, 97, 121]⟩ else ⟨#[]⟩
theorem wd_e (k : Int) : sEq (wd k) ⟨#[]⟩ = !(decide (1 ≤ k) && decide (k ≤ 4)) := by
  by_cases h1 : k = 1
  · subst h1; decide
  by_cases h2 : k = 2
  · subst h2; decide
  by_cases h3 : k = 3
  · subst h3; decide
  by_cases h4 : k = 4
  · subst h4; decide
  have e1 : (k == 1) = false := by simpa using h1
  have e2 : (k == 2) = false := by simpa using h2
  have e3 : (k == 3) = false := by simpa using h3
  have e4 : (k == 4) = false := by simpa using h4
  unfold wd
  rw [e1, e2, e3, e4]
  simp only [cond_false]
  have : (decide (1 ≤ k) && decide (k ≤ 4)) = false := by
    rw [Bool.and_eq_false_iff, decide_eq_false_iff_not, decide_eq_false_iff_not]; omega
  rw [this]; decide
theorem bneb {a b : Int} {c : Bool} (h : (a != b) = c) : (a == b) = !c := by rw [← h]; simp [bne]
noncomputable def rcE (x : Rec) : Int := bif sEq (wd x.kind) ⟨#[]⟩ then 1 else bif !(fldB x.key) then 5 else bif decide (256 < (x.key.size : Int)) then 4 else bif (decide (x.time < 0) || decide (68719476736 ≤ x.time)) then 12 else bif x.kind == 3 then (bif (((x.cents != 0) || decide (x.why < 0)) || decide (99 < x.why)) then 1 else 0) else bif !(fitB x.cents) then 13 else bif x.why != 0 then 1 else 0
noncomputable def hdE (f : Fil) : Int := bif (!(Nm.nmB f.fr) || !(Nm.nmB f.to)) then 6 else bif sEq f.fr f.to then 30 else bif (decide (f.seq < 1) || decide (2147483648 < f.seq)) then 31 else 0
theorem hd_0 {f : Fil} (h : hdE f = 0) : 1 ≤ f.seq ∧ f.seq ≤ 2147483648 := by
  unfold hdE at h
  cases h1 : (!(Nm.nmB f.fr) || !(Nm.nmB f.to)) with
  | true => rw [h1, cond_true] at h; omega
  | false =>
    rw [h1, cond_false] at h
    cases h2 : sEq f.fr f.to with
    | true => rw [h2, cond_true] at h; omega
    | false =>
      rw [h2, cond_false] at h
      cases h3 : (decide (f.seq < 1) || decide (2147483648 < f.seq)) with
      | true => rw [h3, cond_true] at h; omega
      | false =>
        simp only [Bool.or_eq_false_iff, decide_eq_false_iff_not] at h3
        omega
def ck (x : Rec) : Bool := (x.kind == 1) || (x.kind == 2)
def cl (l : List Rec) (k : Nat) : List Int := ((l.take k).filter ck).map (·.cents)
theorem cl_y {l : List Rec} {k : Nat} (hk : k < l.length) (h : ck (ix l k) = true) : cl l k ++ [(ix l k).cents] = cl l (k + 1) := by
  unfold cl
  rw [take_ix hk, List.filter_append, List.map_append]
  simp [h]
theorem cl_n {l : List Rec} {k : Nat} (hk : k < l.length) (h : ck (ix l k) = false) : cl l k = cl l (k + 1) := by
  unfold cl
  rw [take_ix hk, List.filter_append, List.map_append]
  simp [h]
theorem cl_len (l : List Rec) (k : Nat) : (cl l k).length ≤ k := by
  unfold cl
  have := List.length_filter_le ck (l.take k)
  rw [List.length_take] at this
  rw [List.length_map]; omega
def sC (l : List Rec) : Nat → Int
  | 0 => 0
  | k + 1 => bif ck (ix l k) then sC l k + (ix l k).cents else sC l k
theorem sC_y {l : List Rec} {k : Nat} (h : ck (ix l k) = true) : sC l k + (ix l k).cents = sC l (k + 1) := by simp only [sC, h, cond_true]
theorem sC_n {l : List Rec} {k : Nat} (h : ck (ix l k) = false) : sC l k = sC l (k + 1) := by simp only [sC, h, cond_false]
theorem sI_app (l : List Int) (x : Int) : ∀ k, k ≤ l.length → sI (l ++ [x]) k = sI l k
  | 0, _ => rfl
  | k + 1, h => by
    simp only [sI]
    rw [sI_app l x k (by omega)]
    congr 1
    unfold ix
    rw [List.getD_eq_getElem?_getD, List.getD_eq_getElem?_getD, List.getElem?_append_left (by omega)]
theorem ix_last (l : List Int) (x : Int) : ix (l ++ [x]) l.length = x := by
  unfold ix
  rw [List.getD_eq_getElem?_getD, List.getElem?_append_right (Nat.le_refl _), Nat.sub_self]; rfl
theorem sI_cl (l : List Rec) : ∀ k, k ≤ l.length → sI (cl l k) (cl l k).length = sC l k
  | 0, _ => rfl
  | k + 1, h => by
    have ih := sI_cl l k (by omega)
    cases hc : ck (ix l k) with
    | false => rw [← cl_n (by omega) hc, ← sC_n hc, ih]
    | true =>
      rw [← cl_y (by omega) hc, ← sC_y hc, List.length_append]
      show sI (cl l k ++ [(ix l k).cents]) (cl l k).length + ix (cl l k ++ [(ix l k).cents]) (cl l k).length = _
      rw [sI_app _ _ _ (Nat.le_refl _), ix_last, ih]
def okc (x : Rec) : Bool := !(ck x) || fitB x.cents
theorem all_fm (l : List Rec) : ((l.filter ck).map (·.cents)).all fitB = l.all okc := by
  induction l with
  | nil => rfl
  | cons a l ih =>
    cases h : ck a with
    | false => rw [List.filter_cons_of_neg (by rw [h]; simp), ih]; simp [okc, h]
    | true => rw [List.filter_cons_of_pos h, List.map_cons, List.all_cons, List.all_cons, ih]; simp [okc, h]
def tfE (l : List Rec) : Int × Int := bif l.all okc then (bif fitB (sC l l.length) then (sC l l.length, 0) else (0, 13)) else (0, 13)
theorem tot_cl (l : List Rec) : tot (cl l l.length) = tfE l := by
  unfold tot tfE
  rw [sI_cl l l.length (Nat.le_refl _), show (cl l l.length).all fitB = l.all okc from by unfold cl; rw [List.take_length]; exact all_fm l]
theorem tfE_bad {l : List Rec} {k : Nat} (hk : k < l.length) (h : okc (ix l k) = false) : tfE l = (0, 13) := by unfold tfE; rw [all_no hk h]; rfl
theorem tfE_end {l : List Rec} (hq : ∀ q, q < l.length → okc (ix l q) = true) : tfE l = bif fitB (sC l l.length) then (sC l l.length, 0) else (0, 13) := by unfold tfE; rw [all_yes hq]; rfl
theorem sC_in {l : List Rec} : ∀ k, (∀ q, q < k → okc (ix l q) = true) → -(1125899906842624 * (k : Int)) ≤ sC l k ∧ sC l k ≤ 1125899906842624 * (k : Int)
  | 0, _ => by simp [sC]
  | k + 1, h => by
    have ih := sC_in k (fun q hq => h q (by omega))
    have h1 := h k (by omega)
    cases hc : ck (ix l k) with
    | false => rw [← sC_n hc]; omega
    | true =>
      rw [← sC_y hc]
      unfold okc at h1
      rw [hc, Bool.not_true, Bool.false_or] at h1
      have := fit_t h1
      omega
noncomputable def rr (l : List Rec) (k : Nat) : Int := rcE (ix l k)
noncomputable def rE (l : List Rec) : Int := fe (rr l) 0 l.length
noncomputable def ckF (f : Fil) : Int := bif hdE f != 0 then hdE f else bif decide (1024 < (f.recs.length : Int)) then 3 else bif rE f.recs != 0 then rE f.recs else (tfE f.recs).2
theorem ck_0 {f : Fil} (h : ckF f = 0) : (1 ≤ f.seq ∧ f.seq ≤ 2147483648) ∧ f.recs.length ≤ 1024 := by
  unfold ckF at h
  cases h1 : (hdE f != 0) with
  | true => rw [h1, cond_true] at h; rw [h] at h1; cases h1
  | false =>
    rw [h1, cond_false] at h
    cases h2 : decide (1024 < (f.recs.length : Int)) with
    | true => rw [h2, cond_true] at h; omega
    | false =>
      have h3 := of_decide_eq_false h2
      exact ⟨hd_0 (f_bne h1), by omega⟩
theorem hv_k {l : List Rec} (h : hvB l = false) : ∀ x ∈ l, x.key.size ≤ 300 := by
  unfold hvB at h
  simp only [Bool.or_eq_false_iff, decide_eq_false_iff_not, List.any_eq_false, decide_eq_true_eq] at h
  intro x hx
  have := h.2 x hx
  omega
noncomputable def rvP (p : Ptn) (f : Fil) : Ptn := bif ckF f != 0 then p else bif !(sEq f.fr p.name) then p else bif decide (p.inn < f.seq) then p else bif !(f.seq == p.inn) then p else bif decide (1024 < (p.theirs.length : Int) + (f.recs.length : Int)) then p else ⟨p.name, p.out, p.inn + 1, p.wait, p.ours, p.theirs ++ f.recs⟩
noncomputable def rvE (p : Ptn) (f : Fil) : Int := bif ckF f != 0 then ckF f else bif !(sEq f.fr p.name) then 30 else bif decide (p.inn < f.seq) then 31 else bif !(f.seq == p.inn) then 0 else bif decide (1024 < (p.theirs.length : Int) + (f.recs.length : Int)) then 3 else 0

theorem namP (s : ByteArray) : Ctr Try.prog 16 [.fl (.string s)] (.d (.fl (.bool (Nm.nmB s)))) := ctr_flat [.string s] (fun w => Nw.name14 s w)

set_option maxHeartbeats 4000000 in
set_option maxRecDepth 100000 in
theorem fldP (s : ByteArray) (hs : s.size ≤ 1000000) : Ctr Try.prog 33 [.fl (.string s)] (.d (.fl (.bool (fldB s)))) := by
  refine ctr (n := 22) (rs := #[.tmp 2]) (L := [(0, .d (.fl (.string s)))]) Try.func33 rfl rfl rfl rfl rfl (fun w0 U0 => ?_)
  refine a_rseq ?_
  refine rg_put (d := 2) (v := .d (.fl (.bool false))) rfl (og rfl (op_assign rfl rfl rfl)) ?_
  refine rg_done rfl ?_
  refine a_seq ?_
  refine a_rseq ?_
  refine rg_put (d := 4) (v := .d (.fl (.string s))) rfl (og rfl (op_move rfl rfl rfl)) ?_
  refine rg_put (d := 5) (v := .d (.fl (.int .i64 (s.size : Int)))) rfl (og rfl (op_len_str rfl Try.underlying9 rfl rfl)) ?_
  refine rg_put (d := 6) (v := .d (.fl (.int .i64 0))) rfl (og rfl (op_move rfl rfl rfl)) ?_
  refine rg_done rfl ?_
  refine a_block ?_
  refine a_loop (ι := Nat) (fun k => SS [(0, .d (.fl (.string s))), (5, .d (.fl (.int .i64 (s.size : Int)))), (6, .d (.fl (.int .i64 (k : Int))))] []) (fun k => k ≤ s.size ∧ ∀ q, q < k → (cF ((bt s q).toNat : Int)) = true) (fun k => s.size - k) 0 (⟨by omega, fun q h => by omega⟩) (imp_forget rfl ⟨rfl, rfl, (by first | rfl | exact ci (by omega) | exact ci (by simp) | exact cd (by simp) | simp), trivial⟩ trivial) (fun k hok => ?_)
  obtain ⟨hkk, hq⟩ := hok
  refine a_rseq ?_
  refine rg_put (d := 7) (v := .d (.fl (.bool ((decide ((k : Int) < (s.size : Int))))))) rfl (og rfl (op_bin rfl rfl rfl (b_lss _ _ _ _) rfl)) ?_
  refine rg_done rfl ?_
  refine a_seq ?_
  refine a_cond rfl (fun h1 => ?_) (fun h1 => ?_)
  · skip
    have h2 := t_dec h1
    refine a_skip ?_
    show A _ _ _ _ _ _ _
    refine a_seq ?_
    refine a_block ?_
    refine a_rseq ?_
    refine rg_put (d := 8) (v := .d (.fl (.int .i64 (k : Int)))) rfl (og rfl (op_move rfl rfl rfl)) ?_
    refine rg_put (d := 3) (v := .d (.fl (.int .i64 (k : Int)))) rfl (og rfl (op_assign rfl rfl rfl)) ?_
    refine rg_done rfl ?_
    refine a_rseq ?_
    refine rg_put (d := 9) (v := .d (.fl (.string s))) rfl (og rfl (op_move rfl rfl rfl)) ?_
    refine rg_put (d := 10) (v := .d (.fl (.int .i64 (k : Int)))) rfl (og rfl (op_move rfl rfl rfl)) ?_
    refine rg_put (d := 11) (v := .d (.fl (.int .u8 (((bt s k).toNat : Int))))) rfl (og rfl (op_strindex rfl Try.underlying9 rfl rfl (by omega) (byte_ix (by omega)) rfl)) ?_
    refine rg_put (d := 12) (v := .d (.fl (.bool ((decide (((bt s k).toNat : Int) ≤ 32)))))) rfl (og rfl (op_bin rfl rfl rfl (b_leq _ _ _ _) rfl)) ?_
    refine rg_put (d := 13) (v := .d (.fl (.bool ((decide (((bt s k).toNat : Int) ≤ 32)))))) rfl (og rfl (op_move rfl rfl rfl)) ?_
    rcases fot ((decide (((bt s k).toNat : Int) ≤ 32))) with h3 | h3
    · skip
      have h4 := f_dec h3
      refine rg_put (d := 14) (v := .d (.fl (.string s))) rfl (oy rfl rfl rfl h3 (op_move rfl rfl rfl)) ?_
      refine rg_put (d := 15) (v := .d (.fl (.int .i64 (k : Int)))) rfl (oy rfl rfl rfl h3 (op_move rfl rfl rfl)) ?_
      refine rg_put (d := 16) (v := .d (.fl (.int .u8 (((bt s k).toNat : Int))))) rfl (oy rfl rfl rfl h3 (op_strindex rfl Try.underlying9 rfl rfl (by omega) (byte_ix (by omega)) rfl)) ?_
      refine rg_put (d := 17) (v := .d (.fl (.bool ((decide (126 < ((bt s k).toNat : Int))))))) rfl (oy rfl rfl rfl h3 (op_bin rfl rfl rfl (b_gtr _ _ _ _) rfl)) ?_
      refine rg_put (d := 18) (v := .d (.fl (.bool ((decide (126 < ((bt s k).toNat : Int))))))) rfl (og rfl (op_pick rfl rfl (by rw [h3]; rfl) rfl)) ?_
      refine rg_done rfl ?_
      refine a_cond rfl (fun h5 => ?_) (fun h5 => ?_)
      · skip
        have h6 := t_dec h5
        refine a_rseq ?_
        refine rg_put (d := 2) (v := .d (.fl (.bool false))) rfl (og rfl (op_assign rfl rfl rfl)) ?_
        refine rg_done rfl ?_
        refine a_ret ?_
        show ∃ ds, ResL _ _ _ ds ∧ RV.of ds = _
        refine ⟨[.fl (.bool false)], (.cons (.tmp rfl (.d _)) .nil), ?_⟩
        rw [fld_no (k := k) (by omega) (cF_no (by omega))]; rfl
      · skip
        have h7 := f_dec h5
        refine a_skip ?_
        show A _ _ _ _ _ _ _
        refine a_region ?_
        refine rg_put (d := 19) (v := .d (.fl (.int .i64 (((k : Int) + 1))))) rfl (og rfl (op_bin rfl rfl rfl (fun x y w => b_add64 _ _ _ x y w (by omega)) rfl)) ?_
        refine rg_put (d := 6) (v := .d (.fl (.int .i64 (((k : Int) + 1))))) rfl (og rfl (op_move rfl rfl rfl)) ?_
        refine rg_done rfl ?_
        have hx : cF ((bt s k).toNat : Int) = true := cF_yes (by omega)
        show ∃ i, _ ∧ _ ∧ Imp _ _ _ _ _
        refine ⟨k + 1, ⟨by omega, fun q h => (Nat.lt_succ_iff_lt_or_eq.1 h).elim (hq q) (fun e => by rw [e]; exact hx)⟩, by omega, imp_forget rfl ⟨rfl, rfl, (by first | rfl | exact ci (by omega) | exact ci (by simp) | exact cd (by simp) | simp), trivial⟩ trivial⟩
    · skip
      have h8 := t_dec h3
      refine rg_put (d := 14) (v := .d (.fl undef)) rfl (on rfl rfl rfl h3) ?_
      refine rg_put (d := 15) (v := .d (.fl undef)) rfl (on rfl rfl rfl h3) ?_
      refine rg_put (d := 16) (v := .d (.fl undef)) rfl (on rfl rfl rfl h3) ?_
      refine rg_put (d := 17) (v := .d (.fl undef)) rfl (on rfl rfl rfl h3) ?_
      refine rg_put (d := 18) (v := .d (.fl (.bool true))) rfl (og rfl (op_pick rfl rfl (by rw [h3]; rfl) rfl)) ?_
      refine rg_done rfl ?_
      refine a_condK rfl rfl ?_
      refine a_rseq ?_
      refine rg_put (d := 2) (v := .d (.fl (.bool false))) rfl (og rfl (op_assign rfl rfl rfl)) ?_
      refine rg_done rfl ?_
      refine a_ret ?_
      show ∃ ds, ResL _ _ _ ds ∧ RV.of ds = _
      refine ⟨[.fl (.bool false)], (.cons (.tmp rfl (.d _)) .nil), ?_⟩
      rw [fld_no (k := k) (by omega) (cF_no (by omega))]; rfl
  · skip
    have h9 := f_dec h1
    refine a_exit ?_
    show A _ _ _ _ _ _ _
    refine a_rseq ?_
    refine rg_put (d := 20) (v := .d (.fl (.string s))) rfl (og rfl (op_move rfl rfl rfl)) ?_
    refine rg_put (d := 21) (v := .d (.fl (.bool ((!(sEq s (⟨#[]⟩))))))) rfl (og rfl (op_bin rfl rfl rfl (b_sne _ _ _) rfl)) ?_
    refine rg_put (d := 2) (v := .d (.fl (.bool ((!(sEq s (⟨#[]⟩))))))) rfl (og rfl (op_assign rfl rfl rfl)) ?_
    refine rg_done rfl ?_
    refine a_ret ?_
    show ∃ ds, ResL _ _ _ ds ∧ RV.of ds = _
    refine ⟨[.fl (.bool ((!(sEq s (⟨#[]⟩)))))], (.cons (.tmp rfl (.d _)) .nil), ?_⟩
    rw [fld_yes (fun q h => hq q (by omega))]; rfl
set_option maxHeartbeats 4000000 in
set_option maxRecDepth 100000 in
theorem fiC (n : Int) : Ctr Try.prog 34 [.fl (.int .i64 n)] (.d (.fl (.bool (fitB n)))) := by
  refine ctr (n := 9) (rs := #[.tmp 2]) (L := [(0, .d (.fl (.int .i64 n)))]) Try.func34 rfl rfl rfl rfl rfl (fun w0 U0 => ?_)
  refine a_rseq ?_
  refine rg_put (d := 2) (v := .d (.fl (.bool false))) rfl (og rfl (op_assign rfl rfl rfl)) ?_
  refine rg_done rfl ?_
  refine a_rseq ?_
  refine rg_put (d := 3) (v := .d (.fl (.int .i64 n))) rfl (og rfl (op_move rfl rfl rfl)) ?_
  refine rg_put (d := 4) (v := .d (.fl (.bool ((decide ((-1125899906842624) ≤ n)))))) rfl (og rfl (op_bin rfl rfl rfl (b_leq _ _ _ _) rfl)) ?_
  refine rg_put (d := 5) (v := .d (.fl (.bool ((decide ((-1125899906842624) ≤ n)))))) rfl (og rfl (op_move rfl rfl rfl)) ?_
  rcases fot ((decide ((-1125899906842624) ≤ n))) with h1 | h1
  · skip
    have h2 := f_dec h1
    refine rg_put (d := 6) (v := .d (.fl undef)) rfl (on rfl rfl rfl h1) ?_
    refine rg_put (d := 7) (v := .d (.fl undef)) rfl (on rfl rfl rfl h1) ?_
    refine rg_put (d := 8) (v := .d (.fl (.bool false))) rfl (og rfl (op_pick rfl rfl (by rw [h1]; rfl) rfl)) ?_
    refine rg_put (d := 2) (v := .d (.fl (.bool false))) rfl (og rfl (op_assign rfl rfl rfl)) ?_
    refine rg_done rfl ?_
    refine a_ret ?_
    show ∃ ds, ResL _ _ _ ds ∧ RV.of ds = _
    refine ⟨[.fl (.bool false)], (.cons (.tmp rfl (.d _)) .nil), ?_⟩
    first
      | (have hu : fitB n = false := by
          unfold fitB; simp only [h1, Bool.true_or, Bool.false_or, Bool.or_true, Bool.or_false, Bool.not_true, Bool.not_false, cond_true, cond_false, Bool.true_and, Bool.false_and, Bool.and_true, Bool.and_false] <;> rfl
         rw [hu]; rfl)
      | (exfalso; omega)
  · skip
    have h3 := t_dec h1
    refine rg_put (d := 6) (v := .d (.fl (.int .i64 n))) rfl (oy rfl rfl rfl h1 (op_move rfl rfl rfl)) ?_
    refine rg_put (d := 7) (v := .d (.fl (.bool ((decide (n ≤ 1125899906842624)))))) rfl (oy rfl rfl rfl h1 (op_bin rfl rfl rfl (b_leq _ _ _ _) rfl)) ?_
    refine rg_put (d := 8) (v := .d (.fl (.bool ((decide (n ≤ 1125899906842624)))))) rfl (og rfl (op_pick rfl rfl (by rw [h1]; rfl) rfl)) ?_
    refine rg_put (d := 2) (v := .d (.fl (.bool ((decide (n ≤ 1125899906842624)))))) rfl (og rfl (op_assign rfl rfl rfl)) ?_
    refine rg_done rfl ?_
    refine a_ret ?_
    show ∃ ds, ResL _ _ _ ds ∧ RV.of ds = _
    refine ⟨[.fl (.bool ((decide (n ≤ 1125899906842624))))], (.cons (.tmp rfl (.d _)) .nil), ?_⟩
    first
      | (have hu : fitB n = (decide (n ≤ 1125899906842624)) := by
          unfold fitB; simp only [h1, Bool.true_or, Bool.false_or, Bool.or_true, Bool.or_false, Bool.not_true, Bool.not_false, cond_true, cond_false, Bool.true_and, Bool.false_and, Bool.and_true, Bool.and_false] <;> rfl
         rw [hu]; rfl)
      | (exfalso; omega)
set_option maxHeartbeats 4000000 in
set_option maxRecDepth 100000 in
theorem toP (l : List Int) (hl : l.length ≤ 1024) : Ctr Try.prog 41 [.sl 1 (List.map (rI .i64) l)] (.tu [.fl (.int .i64 (tot l).1), .fl (.int .i64 (tot l).2)]) := by
  refine ctr (n := 24) (rs := #[.tmp 2, .tmp 3]) (L := [(0, .d (.sl 1 (List.map (rI .i64) l)))]) Try.func41 rfl rfl rfl rfl rfl (fun w0 U0 => ?_)
  refine a_rseq ?_
  refine rg_put (d := 2) (v := .d (.fl (.int .i64 0))) rfl (og rfl (op_assign rfl rfl rfl)) ?_
  refine rg_put (d := 3) (v := .d (.fl (.int .i64 0))) rfl (og rfl (op_assign rfl rfl rfl)) ?_
  refine rg_done rfl ?_
  refine a_rseq ?_
  refine rg_put (d := 4) (v := .d (.fl (.int .i64 0))) rfl (og rfl (op_assign rfl rfl rfl)) ?_
  refine rg_done rfl ?_
  refine a_seq ?_
  refine a_rseq ?_
  refine rg_put (d := 7) (v := .d (.sl 1 (List.map (rI .i64) l))) rfl (og rfl (op_move rfl rfl rfl)) ?_
  refine rg_put (d := 8) (v := .d (.fl (.int .i64 (l.length : Int)))) rfl (og rfl (s_len rfl Try.underlying67 rfl rfl)) ?_
  refine rg_put (d := 9) (v := .d (.fl (.int .i64 0))) rfl (og rfl (op_move rfl rfl rfl)) ?_
  refine rg_done rfl ?_
  refine a_block ?_
  refine a_loop (ι := Nat) (fun k => SS [(0, .d (.sl 1 (List.map (rI .i64) l))), (7, .d (.sl 1 (List.map (rI .i64) l))), (8, .d (.fl (.int .i64 (l.length : Int)))), (9, .d (.fl (.int .i64 (k : Int)))), (4, .d (.fl (.int .i64 (sI l k))))] []) (fun k => k ≤ l.length ∧ ∀ q, q < k → fitB (ix l q) = true) (fun k => l.length - k) 0 (⟨by omega, fun q h => by omega⟩) (imp_forget rfl ⟨rfl, rfl, rfl, rfl, rfl, trivial⟩ trivial) (fun k hok => ?_)
  obtain ⟨hk, hq⟩ := hok
  have hs9 := sI_in k hq
  refine a_rseq ?_
  refine rg_put (d := 10) (v := .d (.fl (.bool ((decide ((k : Int) < (l.length : Int))))))) rfl (og rfl (op_bin rfl rfl rfl (b_lss _ _ _ _) rfl)) ?_
  refine rg_done rfl ?_
  refine a_seq ?_
  refine a_cond rfl (fun h1 => ?_) (fun h1 => ?_)
  · skip
    have h2 := t_dec h1
    refine a_skip ?_
    show A _ _ _ _ _ _ _
    refine a_seq ?_
    refine a_block ?_
    refine a_rseq ?_
    refine rg_put (d := 11) (v := .el ((rI .i64 (ix l k)))) rfl (og rfl (s_index rfl Try.underlying67 ti3 rfl rfl (by omega) (row_at (by omega)) rfl)) ?_
    refine rg_put (d := 12) (v := .d (.fl (.int .i64 (ix l k)))) rfl (og rfl (op_load_el rfl Try.underlying3 rfl rfl rfl rfl)) ?_
    refine rg_put (d := 6) (v := .d (.fl (.int .i64 (ix l k)))) rfl (og rfl (op_assign rfl rfl rfl)) ?_
    refine rg_done rfl ?_
    refine a_seq ?_
    refine a_rseq ?_
    refine rg_put (d := 13) (v := .d (.fl (.int .i64 (ix l k)))) rfl (og rfl (op_move rfl rfl rfl)) ?_
    refine rg_put (d := 14) (v := .d (.fl (.bool ((fitB (ix l k)))))) rfl (og rfl (op_call rfl Try.func34 nm34 rfl (.cons rfl (.d _) .nil) (fiC (ix l k)) rfl)) ?_
    refine rg_put (d := 15) (v := .d (.fl (.bool ((!((fitB (ix l k)))))))) rfl (og rfl (op_un rfl rfl (u_not _) rfl)) ?_
    refine rg_done rfl ?_
    refine a_cond rfl (fun h3 => ?_) (fun h3 => ?_)
    · skip
      have h4 := t_not h3
      refine a_rseq ?_
      refine rg_put (d := 2) (v := .d (.fl (.int .i64 0))) rfl (og rfl (op_assign rfl rfl rfl)) ?_
      refine rg_put (d := 3) (v := .d (.fl (.int .i64 13))) rfl (og rfl (op_assign rfl rfl rfl)) ?_
      refine rg_done rfl ?_
      refine a_ret ?_
      show ∃ ds, ResL _ _ _ ds ∧ RV.of ds = _
      refine ⟨[.fl (.int .i64 0), .fl (.int .i64 13)], (.cons (.tmp rfl (.d _)) (.cons (.tmp rfl (.d _)) .nil)), ?_⟩
      rw [tot_bad (by omega) h4]; rfl
    · skip
      have h5 := f_not h3
      refine a_skip ?_
      show A _ _ _ _ _ _ _
      refine a_region ?_
      have hft := fit_t h5
      refine rg_put (d := 16) (v := .d (.fl (.int .i64 (sI l k)))) rfl (og rfl (op_move rfl rfl rfl)) ?_
      refine rg_put (d := 17) (v := .d (.fl (.int .i64 (ix l k)))) rfl (og rfl (op_move rfl rfl rfl)) ?_
      refine rg_put (d := 18) (v := .d (.fl (.int .i64 (((sI l k) + (ix l k)))))) rfl (og rfl (op_bin rfl rfl rfl (fun x y w => b_add64 _ _ _ x y w (by omega)) rfl)) ?_
      refine rg_put (d := 4) (v := .d (.fl (.int .i64 (((sI l k) + (ix l k)))))) rfl (og rfl (op_assign rfl rfl rfl)) ?_
      refine rg_done rfl ?_
      show A _ _ _ _ _ _ _
      refine a_region ?_
      refine rg_put (d := 19) (v := .d (.fl (.int .i64 (((k : Int) + 1))))) rfl (og rfl (op_bin rfl rfl rfl (fun x y w => b_add64 _ _ _ x y w (by omega)) rfl)) ?_
      refine rg_put (d := 9) (v := .d (.fl (.int .i64 (((k : Int) + 1))))) rfl (og rfl (op_move rfl rfl rfl)) ?_
      refine rg_done rfl ?_
      have hx : (fitB (ix l k)) = true := h5
      show ∃ i, _ ∧ _ ∧ Imp _ _ _ _ _
      refine ⟨k + 1, ⟨by omega, fun q h => (Nat.lt_succ_iff_lt_or_eq.1 h).elim (hq q) (fun e => by rw [e]; exact hx)⟩, by omega, imp_forget rfl ⟨rfl, rfl, rfl, (ci (by omega)), rfl, trivial⟩ trivial⟩
  · skip
    have h6 := f_dec h1
    refine a_exit ?_
    show A _ _ _ _ _ _ _
    refine a_seq ?_
    refine a_rseq ?_
    rw [show (sI l k) = (sI l l.length) from (by rw [show k = l.length by omega])]
    refine rg_put (d := 20) (v := .d (.fl (.int .i64 (sI l l.length)))) rfl (og rfl (op_move rfl rfl rfl)) ?_
    refine rg_put (d := 21) (v := .d (.fl (.bool ((fitB (sI l l.length)))))) rfl (og rfl (op_call rfl Try.func34 nm34 rfl (.cons rfl (.d _) .nil) (fiC (sI l l.length)) rfl)) ?_
    refine rg_put (d := 22) (v := .d (.fl (.bool ((!((fitB (sI l l.length)))))))) rfl (og rfl (op_un rfl rfl (u_not _) rfl)) ?_
    refine rg_done rfl ?_
    refine a_cond rfl (fun h7 => ?_) (fun h7 => ?_)
    · skip
      have h8 := t_not h7
      refine a_rseq ?_
      refine rg_put (d := 2) (v := .d (.fl (.int .i64 0))) rfl (og rfl (op_assign rfl rfl rfl)) ?_
      refine rg_put (d := 3) (v := .d (.fl (.int .i64 13))) rfl (og rfl (op_assign rfl rfl rfl)) ?_
      refine rg_done rfl ?_
      refine a_ret ?_
      show ∃ ds, ResL _ _ _ ds ∧ RV.of ds = _
      refine ⟨[.fl (.int .i64 0), .fl (.int .i64 13)], (.cons (.tmp rfl (.d _)) (.cons (.tmp rfl (.d _)) .nil)), ?_⟩
      rw [tot_end (fun q h => hq q (by omega)), h8]; rfl
    · skip
      have h9 := f_not h7
      refine a_skip ?_
      show A _ _ _ _ _ _ _
      refine a_rseq ?_
      refine rg_put (d := 23) (v := .d (.fl (.int .i64 (sI l l.length)))) rfl (og rfl (op_move rfl rfl rfl)) ?_
      refine rg_put (d := 2) (v := .d (.fl (.int .i64 (sI l l.length)))) rfl (og rfl (op_assign rfl rfl rfl)) ?_
      refine rg_put (d := 3) (v := .d (.fl (.int .i64 0))) rfl (og rfl (op_assign rfl rfl rfl)) ?_
      refine rg_done rfl ?_
      refine a_ret ?_
      show ∃ ds, ResL _ _ _ ds ∧ RV.of ds = _
      refine ⟨[.fl (.int .i64 (sI l l.length)), .fl (.int .i64 0)], (.cons (.tmp rfl (.d _)) (.cons (.tmp rfl (.d _)) .nil)), ?_⟩
      rw [tot_end (fun q h => hq q (by omega)), h9]; rfl
set_option maxHeartbeats 4000000 in
set_option maxRecDepth 100000 in
theorem suP (l : List Int) (hl : l.length ≤ 1024) : Ctr Try.prog 35 [.sl 1 (List.map (rI .i64) l)] (.tu [.fl (.int .i64 (tot l).1), .fl (.int .i64 (tot l).2)]) := by
  refine ctr (n := 11) (rs := #[.tmp 2, .tmp 3]) (L := [(0, .d (.sl 1 (List.map (rI .i64) l)))]) Try.func35 rfl rfl rfl rfl rfl (fun w0 U0 => ?_)
  refine a_rseq ?_
  refine rg_put (d := 2) (v := .d (.fl (.int .i64 0))) rfl (og rfl (op_assign rfl rfl rfl)) ?_
  refine rg_put (d := 3) (v := .d (.fl (.int .i64 0))) rfl (og rfl (op_assign rfl rfl rfl)) ?_
  refine rg_done rfl ?_
  refine a_seq ?_
  refine a_rseq ?_
  refine rg_put (d := 4) (v := .d (.sl 1 (List.map (rI .i64) l))) rfl (og rfl (op_move rfl rfl rfl)) ?_
  refine rg_put (d := 5) (v := .d (.fl (.int .i64 (l.length : Int)))) rfl (og rfl (s_len rfl Try.underlying67 rfl rfl)) ?_
  refine rg_put (d := 6) (v := .d (.fl (.bool ((decide (1024 < (l.length : Int))))))) rfl (og rfl (op_bin rfl rfl rfl (b_gtr _ _ _ _) rfl)) ?_
  refine rg_done rfl ?_
  refine a_condF rfl (decide_eq_false (by omega)) ?_
  refine a_skip ?_
  show A _ _ _ _ _ _ _
  refine a_rseq ?_
  refine rg_put (d := 7) (v := .d (.sl 1 (List.map (rI .i64) l))) rfl (og rfl (op_move rfl rfl rfl)) ?_
  refine rg_put (d := 8) (v := .tu [.fl (.int .i64 ((tot l).1)), .fl (.int .i64 ((tot l).2))]) rfl (og rfl (op_call rfl Try.func41 nm41 rfl (.cons rfl (.d _) .nil) (toP l hl) rfl)) ?_
  refine rg_put (d := 9) (v := .d (.fl (.int .i64 ((tot l).1)))) rfl (og rfl (op_extract rfl rfl rfl rfl)) ?_
  refine rg_put (d := 10) (v := .d (.fl (.int .i64 ((tot l).2)))) rfl (og rfl (op_extract rfl rfl rfl rfl)) ?_
  refine rg_put (d := 2) (v := .d (.fl (.int .i64 ((tot l).1)))) rfl (og rfl (op_assign rfl rfl rfl)) ?_
  refine rg_put (d := 3) (v := .d (.fl (.int .i64 ((tot l).2)))) rfl (og rfl (op_assign rfl rfl rfl)) ?_
  refine rg_done rfl ?_
  refine a_ret ?_
  show ∃ ds, ResL _ _ _ ds ∧ RV.of ds = _
  refine ⟨[.fl (.int .i64 ((tot l).1)), .fl (.int .i64 ((tot l).2))], (.cons (.tmp rfl (.d _)) (.cons (.tmp rfl (.d _)) .nil)), ?_⟩
  rfl
set_option maxHeartbeats 4000000 in
set_option maxRecDepth 100000 in
theorem wdP (k : Int) : Ctr Try.prog 32 [.fl (.int .i64 k)] (.d (.fl (.string (wd k)))) := by
  refine ctr (n := 12) (rs := #[.tmp 2]) (L := [(0, .d (.fl (.int .i64 k)))]) Try.func32 rfl rfl rfl rfl rfl (fun w0 U0 => ?_)
  refine a_rseq ?_
  refine rg_put (d := 2) (v := .d (.fl (.string (⟨#[]⟩)))) rfl (og rfl (op_assign rfl rfl rfl)) ?_
  refine rg_done rfl ?_
  refine a_seq ?_
  refine a_rseq ?_
  refine rg_put (d := 3) (v := .d (.fl (.int .i64 k))) rfl (og rfl (op_move rfl rfl rfl)) ?_
  refine rg_done rfl ?_
  refine a_block ?_
  refine a_rseq ?_
  refine rg_put (d := 5) (v := .d (.fl (.bool (k == 1)))) rfl (og rfl (op_bin rfl rfl rfl (b_eql _ _ _ _) rfl)) ?_
  refine rg_put (d := 4) (v := .d (.fl (.bool (k == 1)))) rfl (og rfl (op_assign rfl rfl rfl)) ?_
  refine rg_done rfl ?_
  refine a_cond rfl (fun h1 => ?_) (fun h1 => ?_)
  · skip
    have h2 := t_beq h1
    refine a_rseq ?_
    refine rg_put (d := 2) (v := .d (.fl (.string (⟨#[99, 104, 97, 114, 103, 101]⟩)))) rfl (og rfl (op_assign rfl rfl rfl)) ?_
    refine rg_done rfl ?_
    refine a_ret ?_
    show ∃ ds, ResL _ _ _ ds ∧ RV.of ds = _
    refine ⟨[.fl (.string (⟨#[99, 104, 97, 114, 103, 101]⟩))], (.cons (.tmp rfl (.d _)) .nil), ?_⟩
    first
      | (have hu : wd k = ⟨#[99, 104, 97, 114, 103, 101]⟩ := by
          unfold wd; simp only [h1, Bool.true_or, Bool.false_or, Bool.or_true, Bool.or_false, Bool.not_true, Bool.not_false, cond_true, cond_false, Bool.true_and, Bool.false_and, Bool.and_true, Bool.and_false] <;> rfl
         rw [hu]; rfl)
      | (exfalso; omega)
  · skip
    have h3 := f_beq h1
    refine a_rseq ?_
    refine rg_put (d := 7) (v := .d (.fl (.bool (k == 2)))) rfl (og rfl (op_bin rfl rfl rfl (b_eql _ _ _ _) rfl)) ?_
    refine rg_put (d := 6) (v := .d (.fl (.bool (k == 2)))) rfl (og rfl (op_assign rfl rfl rfl)) ?_
    refine rg_done rfl ?_
    refine a_cond rfl (fun h4 => ?_) (fun h4 => ?_)
    · skip
      have h5 := t_beq h4
      refine a_rseq ?_
      refine rg_put (d := 2) (v := .d (.fl (.string (⟨#[99, 111, 114, 114, 101, 99, 116]⟩)))) rfl (og rfl (op_assign rfl rfl rfl)) ?_
      refine rg_done rfl ?_
      refine a_ret ?_
      show ∃ ds, ResL _ _ _ ds ∧ RV.of ds = _
      refine ⟨[.fl (.string (⟨#[99, 111, 114, 114, 101, 99, 116]⟩))], (.cons (.tmp rfl (.d _)) .nil), ?_⟩
      first
        | (have hu : wd k = ⟨#[99, 111, 114, 114, 101, 99, 116]⟩ := by
            unfold wd; simp only [h1, h4, Bool.true_or, Bool.false_or, Bool.or_true, Bool.or_false, Bool.not_true, Bool.not_false, cond_true, cond_false, Bool.true_and, Bool.false_and, Bool.and_true, Bool.and_false] <;> rfl
           rw [hu]; rfl)
        | (exfalso; omega)
    · skip
      have h6 := f_beq h4
      refine a_rseq ?_
      refine rg_put (d := 9) (v := .d (.fl (.bool (k == 3)))) rfl (og rfl (op_bin rfl rfl rfl (b_eql _ _ _ _) rfl)) ?_
      refine rg_put (d := 8) (v := .d (.fl (.bool (k == 3)))) rfl (og rfl (op_assign rfl rfl rfl)) ?_
      refine rg_done rfl ?_
      refine a_cond rfl (fun h7 => ?_) (fun h7 => ?_)
      · skip
        have h8 := t_beq h7
        refine a_rseq ?_
        refine rg_put (d := 2) (v := .d (.fl (.string (⟨#[114, 101, 106, 101, 99, 116]⟩)))) rfl (og rfl (op_assign rfl rfl rfl)) ?_
        refine rg_done rfl ?_
        refine a_ret ?_
        show ∃ ds, ResL _ _ _ ds ∧ RV.of ds = _
        refine ⟨[.fl (.string (⟨#[114, 101, 106, 101, 99, 116]⟩))], (.cons (.tmp rfl (.d _)) .nil), ?_⟩
        first
          | (have hu : wd k = ⟨#[114, 101, 106, 101, 99, 116]⟩ := by
              unfold wd; simp only [h1, h4, h7, Bool.true_or, Bool.false_or, Bool.or_true, Bool.or_false, Bool.not_true, Bool.not_false, cond_true, cond_false, Bool.true_and, Bool.false_and, Bool.and_true, Bool.and_false] <;> rfl
             rw [hu]; rfl)
          | (exfalso; omega)
      · skip
        have h9 := f_beq h7
        refine a_rseq ?_
        refine rg_put (d := 11) (v := .d (.fl (.bool (k == 4)))) rfl (og rfl (op_bin rfl rfl rfl (b_eql _ _ _ _) rfl)) ?_
        refine rg_put (d := 10) (v := .d (.fl (.bool (k == 4)))) rfl (og rfl (op_assign rfl rfl rfl)) ?_
        refine rg_done rfl ?_
        refine a_cond rfl (fun h10 => ?_) (fun h10 => ?_)
        · skip
          have h11 := t_beq h10
          refine a_rseq ?_
          refine rg_put (d := 2) (v := .d (.fl (.string (⟨#[112, 97, 121]⟩)))) rfl (og rfl (op_assign rfl rfl rfl)) ?_
          refine rg_done rfl ?_
          refine a_ret ?_
          show ∃ ds, ResL _ _ _ ds ∧ RV.of ds = _
          refine ⟨[.fl (.string (⟨#[112, 97, 121]⟩))], (.cons (.tmp rfl (.d _)) .nil), ?_⟩
          first
            | (have hu : wd k = ⟨#[112, 97, 121]⟩ := by
                unfold wd; simp only [h1, h4, h7, h10, Bool.true_or, Bool.false_or, Bool.or_true, Bool.or_false, Bool.not_true, Bool.not_false, cond_true, cond_false, Bool.true_and, Bool.false_and, Bool.and_true, Bool.and_false] <;> rfl
               rw [hu]; rfl)
            | (exfalso; omega)
        · skip
          have h12 := f_beq h10
          refine a_skip ?_
          show A _ _ _ _ _ _ _
          refine a_rseq ?_
          refine rg_put (d := 2) (v := .d (.fl (.string (⟨#[]⟩)))) rfl (og rfl (op_assign rfl rfl rfl)) ?_
          refine rg_done rfl ?_
          refine a_ret ?_
          show ∃ ds, ResL _ _ _ ds ∧ RV.of ds = _
          refine ⟨[.fl (.string (⟨#[]⟩))], (.cons (.tmp rfl (.d _)) .nil), ?_⟩
          first
            | (have hu : wd k = ⟨#[]⟩ := by
                unfold wd; simp only [h1, h4, h7, h10, Bool.true_or, Bool.false_or, Bool.or_true, Bool.or_false, Bool.not_true, Bool.not_false, cond_true, cond_false, Bool.true_and, Bool.false_and, Bool.and_true, Bool.and_false] <;> rfl
               rw [hu]; rfl)
            | (exfalso; omega)
set_option maxHeartbeats 4000000 in
set_option maxRecDepth 100000 in
theorem rcP (x : Rec) (hx : x.key.size ≤ 1000) : Ctr Try.prog 27 [.ag (eRec x)] (.d (.fl (.int .i64 (rcE x)))) := by
  refine ctr (n := 50) (rs := #[.tmp 2]) (L := [(0, .d (.ag (eRec x)))]) Try.func27 rfl rfl rfl rfl rfl (fun w0 U0 => ?_)
  refine a_rseq ?_
  refine rg_nam (d := 1) (v := .pt 101 0) (m := 101) (nw := [(101, .bx 43 (eRec x))]) rfl (og rfl (of_eff (op_box 101 rfl rfl rfl rfl) rfl)) rfl ?_
  refine rg_put (d := 2) (v := .d (.fl (.int .i64 0))) rfl (og rfl (op_assign rfl rfl rfl)) ?_
  refine rg_done rfl ?_
  refine a_seq ?_
  refine a_block ?_
  refine a_rseq ?_
  refine rg_put (d := 4) (v := .pt 101 0) rfl (og rfl (of_eff (s_field_pt rfl Try.underlying43 rfl ti3 rfl rfl rfl) rfl)) ?_
  refine rg_put (d := 5) (v := .d (.fl (.int .i64 x.kind))) rfl (og rfl (op_load_pt rfl Try.underlying3 rfl rfl rfl rfl rfl)) ?_
  refine rg_put (d := 6) (v := .d (.fl (.string (wd x.kind)))) rfl (og rfl (op_call rfl Try.func32 nm32 rfl (.cons rfl (.d _) .nil) (wdP x.kind) rfl)) ?_
  refine rg_put (d := 7) (v := .d (.fl (.bool ((sEq (wd x.kind) (⟨#[]⟩)))))) rfl (og rfl (op_bin rfl rfl rfl (b_seq _ _ _) rfl)) ?_
  refine rg_put (d := 3) (v := .d (.fl (.bool ((sEq (wd x.kind) (⟨#[]⟩)))))) rfl (og rfl (op_assign rfl rfl rfl)) ?_
  refine rg_done rfl ?_
  refine a_cond rfl (fun h1 => ?_) (fun h1 => ?_)
  · skip
    refine a_rseq ?_
    refine rg_put (d := 2) (v := .d (.fl (.int .i64 1))) rfl (og rfl (op_assign rfl rfl rfl)) ?_
    refine rg_done rfl ?_
    refine a_ret ?_
    show ∃ ds, ResL _ _ _ ds ∧ RV.of ds = _
    refine ⟨[.fl (.int .i64 1)], (.cons (.tmp rfl (.d _)) .nil), ?_⟩
    have hu : rcE x = 1 := by unfold rcE; simp only [h1, Bool.true_or, Bool.false_or, Bool.or_true, Bool.or_false, Bool.not_true, Bool.not_false, cond_true, cond_false, Bool.true_and, Bool.false_and, Bool.and_true, Bool.and_false] <;> rfl
    rw [hu]; rfl
  · skip
    refine a_rseq ?_
    refine rg_put (d := 9) (v := .pt 101 1) rfl (og rfl (of_eff (s_field_pt rfl Try.underlying43 rfl ti9 rfl rfl rfl) rfl)) ?_
    refine rg_put (d := 10) (v := .d (.fl (.string x.key))) rfl (og rfl (op_load_pt rfl Try.underlying9 rfl rfl rfl rfl rfl)) ?_
    refine rg_put (d := 11) (v := .d (.fl (.bool (fldB x.key)))) rfl (og rfl (op_call rfl Try.func33 nm33 rfl (.cons rfl (.d _) .nil) (fldP x.key (by omega)) rfl)) ?_
    refine rg_put (d := 12) (v := .d (.fl (.bool ((!(fldB x.key)))))) rfl (og rfl (op_un rfl rfl (u_not _) rfl)) ?_
    refine rg_put (d := 8) (v := .d (.fl (.bool ((!(fldB x.key)))))) rfl (og rfl (op_assign rfl rfl rfl)) ?_
    refine rg_done rfl ?_
    refine a_cond rfl (fun h2 => ?_) (fun h2 => ?_)
    · skip
      have h3 := t_not h2
      refine a_rseq ?_
      refine rg_put (d := 2) (v := .d (.fl (.int .i64 5))) rfl (og rfl (op_assign rfl rfl rfl)) ?_
      refine rg_done rfl ?_
      refine a_ret ?_
      show ∃ ds, ResL _ _ _ ds ∧ RV.of ds = _
      refine ⟨[.fl (.int .i64 5)], (.cons (.tmp rfl (.d _)) .nil), ?_⟩
      have hu : rcE x = 5 := by unfold rcE; simp only [h1, h2, h3, Bool.true_or, Bool.false_or, Bool.or_true, Bool.or_false, Bool.not_true, Bool.not_false, cond_true, cond_false, Bool.true_and, Bool.false_and, Bool.and_true, Bool.and_false] <;> rfl
      rw [hu]; rfl
    · skip
      have h4 := f_not h2
      refine a_rseq ?_
      refine rg_put (d := 14) (v := .pt 101 1) rfl (og rfl (of_eff (s_field_pt rfl Try.underlying43 rfl ti9 rfl rfl rfl) rfl)) ?_
      refine rg_put (d := 15) (v := .d (.fl (.string x.key))) rfl (og rfl (op_load_pt rfl Try.underlying9 rfl rfl rfl rfl rfl)) ?_
      refine rg_put (d := 16) (v := .d (.fl (.int .i64 (x.key.size : Int)))) rfl (og rfl (op_len_str rfl Try.underlying9 rfl rfl)) ?_
      refine rg_put (d := 17) (v := .d (.fl (.bool ((decide (256 < (x.key.size : Int))))))) rfl (og rfl (op_bin rfl rfl rfl (b_gtr _ _ _ _) rfl)) ?_
      refine rg_put (d := 13) (v := .d (.fl (.bool ((decide (256 < (x.key.size : Int))))))) rfl (og rfl (op_assign rfl rfl rfl)) ?_
      refine rg_done rfl ?_
      refine a_cond rfl (fun h5 => ?_) (fun h5 => ?_)
      · skip
        have h6 := t_dec h5
        refine a_rseq ?_
        refine rg_put (d := 2) (v := .d (.fl (.int .i64 4))) rfl (og rfl (op_assign rfl rfl rfl)) ?_
        refine rg_done rfl ?_
        refine a_ret ?_
        show ∃ ds, ResL _ _ _ ds ∧ RV.of ds = _
        refine ⟨[.fl (.int .i64 4)], (.cons (.tmp rfl (.d _)) .nil), ?_⟩
        have hu : rcE x = 4 := by unfold rcE; simp only [h1, h2, h4, h5, Bool.true_or, Bool.false_or, Bool.or_true, Bool.or_false, Bool.not_true, Bool.not_false, cond_true, cond_false, Bool.true_and, Bool.false_and, Bool.and_true, Bool.and_false] <;> rfl
        rw [hu]; rfl
      · skip
        have h7 := f_dec h5
        refine a_rseq ?_
        refine rg_put (d := 19) (v := .pt 101 2) rfl (og rfl (of_eff (s_field_pt rfl Try.underlying43 rfl ti3 rfl rfl rfl) rfl)) ?_
        refine rg_put (d := 20) (v := .d (.fl (.int .i64 x.time))) rfl (og rfl (op_load_pt rfl Try.underlying3 rfl rfl rfl rfl rfl)) ?_
        refine rg_put (d := 21) (v := .d (.fl (.bool ((decide (x.time < 0)))))) rfl (og rfl (op_bin rfl rfl rfl (b_lss _ _ _ _) rfl)) ?_
        refine rg_put (d := 22) (v := .d (.fl (.bool ((decide (x.time < 0)))))) rfl (og rfl (op_move rfl rfl rfl)) ?_
        rcases fot ((decide (x.time < 0))) with h8 | h8
        · skip
          have h9 := f_dec h8
          refine rg_put (d := 23) (v := .pt 101 2) rfl (oy rfl rfl rfl h8 (of_eff (s_field_pt rfl Try.underlying43 rfl ti3 rfl rfl rfl) rfl)) ?_
          refine rg_put (d := 24) (v := .d (.fl (.int .i64 x.time))) rfl (oy rfl rfl rfl h8 (op_load_pt rfl Try.underlying3 rfl rfl rfl rfl rfl)) ?_
          refine rg_put (d := 25) (v := .d (.fl (.bool ((decide (68719476736 ≤ x.time)))))) rfl (oy rfl rfl rfl h8 (op_bin rfl rfl rfl (b_geq _ _ _ _) rfl)) ?_
          refine rg_put (d := 26) (v := .d (.fl (.bool ((decide (68719476736 ≤ x.time)))))) rfl (og rfl (op_pick rfl rfl (by rw [h8]; rfl) rfl)) ?_
          refine rg_put (d := 18) (v := .d (.fl (.bool ((decide (68719476736 ≤ x.time)))))) rfl (og rfl (op_assign rfl rfl rfl)) ?_
          refine rg_done rfl ?_
          refine a_cond rfl (fun h10 => ?_) (fun h10 => ?_)
          · skip
            have h11 := t_dec h10
            refine a_rseq ?_
            refine rg_put (d := 2) (v := .d (.fl (.int .i64 12))) rfl (og rfl (op_assign rfl rfl rfl)) ?_
            refine rg_done rfl ?_
            refine a_ret ?_
            show ∃ ds, ResL _ _ _ ds ∧ RV.of ds = _
            refine ⟨[.fl (.int .i64 12)], (.cons (.tmp rfl (.d _)) .nil), ?_⟩
            have hu : rcE x = 12 := by unfold rcE; simp only [h1, h2, h4, h5, h8, h10, Bool.true_or, Bool.false_or, Bool.or_true, Bool.or_false, Bool.not_true, Bool.not_false, cond_true, cond_false, Bool.true_and, Bool.false_and, Bool.and_true, Bool.and_false] <;> rfl
            rw [hu]; rfl
          · skip
            have h12 := f_dec h10
            refine a_skip ?_
            show A _ _ _ _ _ _ _
            refine a_seq ?_
            refine a_rseq ?_
            refine rg_put (d := 27) (v := .pt 101 0) rfl (og rfl (of_eff (s_field_pt rfl Try.underlying43 rfl ti3 rfl rfl rfl) rfl)) ?_
            refine rg_put (d := 28) (v := .d (.fl (.int .i64 x.kind))) rfl (og rfl (op_load_pt rfl Try.underlying3 rfl rfl rfl rfl rfl)) ?_
            refine rg_put (d := 29) (v := .d (.fl (.bool (x.kind == 3)))) rfl (og rfl (op_bin rfl rfl rfl (b_eql _ _ _ _) rfl)) ?_
            refine rg_done rfl ?_
            refine a_cond rfl (fun h13 => ?_) (fun h13 => ?_)
            · skip
              have h14 := t_beq h13
              refine a_seq ?_
              refine a_rseq ?_
              refine rg_put (d := 30) (v := .pt 101 3) rfl (og rfl (of_eff (s_field_pt rfl Try.underlying43 rfl ti3 rfl rfl rfl) rfl)) ?_
              refine rg_put (d := 31) (v := .d (.fl (.int .i64 x.cents))) rfl (og rfl (op_load_pt rfl Try.underlying3 rfl rfl rfl rfl rfl)) ?_
              refine rg_put (d := 32) (v := .d (.fl (.bool (x.cents != 0)))) rfl (og rfl (op_bin rfl rfl rfl (b_neq _ _ _ _) rfl)) ?_
              refine rg_put (d := 33) (v := .d (.fl (.bool (x.cents != 0)))) rfl (og rfl (op_move rfl rfl rfl)) ?_
              rcases fot (x.cents != 0) with h15 | h15
              · skip
                have h16 := f_bne h15
                refine rg_put (d := 34) (v := .pt 101 4) rfl (oy rfl rfl rfl h15 (of_eff (s_field_pt rfl Try.underlying43 rfl ti3 rfl rfl rfl) rfl)) ?_
                refine rg_put (d := 35) (v := .d (.fl (.int .i64 x.why))) rfl (oy rfl rfl rfl h15 (op_load_pt rfl Try.underlying3 rfl rfl rfl rfl rfl)) ?_
                refine rg_put (d := 36) (v := .d (.fl (.bool ((decide (x.why < 0)))))) rfl (oy rfl rfl rfl h15 (op_bin rfl rfl rfl (b_lss _ _ _ _) rfl)) ?_
                refine rg_put (d := 37) (v := .d (.fl (.bool ((decide (x.why < 0)))))) rfl (og rfl (op_pick rfl rfl (by rw [h15]; rfl) rfl)) ?_
                refine rg_put (d := 38) (v := .d (.fl (.bool ((decide (x.why < 0)))))) rfl (og rfl (op_move rfl rfl rfl)) ?_
                rcases fot ((decide (x.why < 0))) with h17 | h17
                · skip
                  have h18 := f_dec h17
                  refine rg_put (d := 39) (v := .pt 101 4) rfl (oy rfl rfl rfl h17 (of_eff (s_field_pt rfl Try.underlying43 rfl ti3 rfl rfl rfl) rfl)) ?_
                  refine rg_put (d := 40) (v := .d (.fl (.int .i64 x.why))) rfl (oy rfl rfl rfl h17 (op_load_pt rfl Try.underlying3 rfl rfl rfl rfl rfl)) ?_
                  refine rg_put (d := 41) (v := .d (.fl (.bool ((decide (99 < x.why)))))) rfl (oy rfl rfl rfl h17 (op_bin rfl rfl rfl (b_gtr _ _ _ _) rfl)) ?_
                  refine rg_put (d := 42) (v := .d (.fl (.bool ((decide (99 < x.why)))))) rfl (og rfl (op_pick rfl rfl (by rw [h17]; rfl) rfl)) ?_
                  refine rg_done rfl ?_
                  refine a_cond rfl (fun h19 => ?_) (fun h19 => ?_)
                  · skip
                    have h20 := t_dec h19
                    refine a_rseq ?_
                    refine rg_put (d := 2) (v := .d (.fl (.int .i64 1))) rfl (og rfl (op_assign rfl rfl rfl)) ?_
                    refine rg_done rfl ?_
                    refine a_ret ?_
                    show ∃ ds, ResL _ _ _ ds ∧ RV.of ds = _
                    refine ⟨[.fl (.int .i64 1)], (.cons (.tmp rfl (.d _)) .nil), ?_⟩
                    have hu : rcE x = 1 := by unfold rcE; simp only [h1, h2, h4, h5, h8, h10, h13, h15, h17, h19, Bool.true_or, Bool.false_or, Bool.or_true, Bool.or_false, Bool.not_true, Bool.not_false, cond_true, cond_false, Bool.true_and, Bool.false_and, Bool.and_true, Bool.and_false] <;> rfl
                    rw [hu]; rfl
                  · skip
                    have h21 := f_dec h19
                    refine a_skip ?_
                    show A _ _ _ _ _ _ _
                    refine a_rseq ?_
                    refine rg_put (d := 2) (v := .d (.fl (.int .i64 0))) rfl (og rfl (op_assign rfl rfl rfl)) ?_
                    refine rg_done rfl ?_
                    refine a_ret ?_
                    show ∃ ds, ResL _ _ _ ds ∧ RV.of ds = _
                    refine ⟨[.fl (.int .i64 0)], (.cons (.tmp rfl (.d _)) .nil), ?_⟩
                    have hu : rcE x = 0 := by unfold rcE; simp only [h1, h2, h4, h5, h8, h10, h13, h15, h17, h19, Bool.true_or, Bool.false_or, Bool.or_true, Bool.or_false, Bool.not_true, Bool.not_false, cond_true, cond_false, Bool.true_and, Bool.false_and, Bool.and_true, Bool.and_false] <;> rfl
                    rw [hu]; rfl
                · skip
                  have h22 := t_dec h17
                  refine rg_put (d := 39) (v := .d (.fl undef)) rfl (on rfl rfl rfl h17) ?_
                  refine rg_put (d := 40) (v := .d (.fl undef)) rfl (on rfl rfl rfl h17) ?_
                  refine rg_put (d := 41) (v := .d (.fl undef)) rfl (on rfl rfl rfl h17) ?_
                  refine rg_put (d := 42) (v := .d (.fl (.bool true))) rfl (og rfl (op_pick rfl rfl (by rw [h17]; rfl) rfl)) ?_
                  refine rg_done rfl ?_
                  refine a_condK rfl rfl ?_
                  refine a_rseq ?_
                  refine rg_put (d := 2) (v := .d (.fl (.int .i64 1))) rfl (og rfl (op_assign rfl rfl rfl)) ?_
                  refine rg_done rfl ?_
                  refine a_ret ?_
                  show ∃ ds, ResL _ _ _ ds ∧ RV.of ds = _
                  refine ⟨[.fl (.int .i64 1)], (.cons (.tmp rfl (.d _)) .nil), ?_⟩
                  have hu : rcE x = 1 := by unfold rcE; simp only [h1, h2, h4, h5, h8, h10, h13, h15, h17, Bool.true_or, Bool.false_or, Bool.or_true, Bool.or_false, Bool.not_true, Bool.not_false, cond_true, cond_false, Bool.true_and, Bool.false_and, Bool.and_true, Bool.and_false] <;> rfl
                  rw [hu]; rfl
              · skip
                have h23 := t_bne h15
                refine rg_put (d := 34) (v := .d (.fl undef)) rfl (on rfl rfl rfl h15) ?_
                refine rg_put (d := 35) (v := .d (.fl undef)) rfl (on rfl rfl rfl h15) ?_
                refine rg_put (d := 36) (v := .d (.fl undef)) rfl (on rfl rfl rfl h15) ?_
                refine rg_put (d := 37) (v := .d (.fl (.bool true))) rfl (og rfl (op_pick rfl rfl (by rw [h15]; rfl) rfl)) ?_
                refine rg_put (d := 38) (v := .d (.fl (.bool true))) rfl (og rfl (op_move rfl rfl rfl)) ?_
                refine rg_put (d := 39) (v := .d (.fl undef)) rfl (on rfl rfl rfl rfl) ?_
                refine rg_put (d := 40) (v := .d (.fl undef)) rfl (on rfl rfl rfl rfl) ?_
                refine rg_put (d := 41) (v := .d (.fl undef)) rfl (on rfl rfl rfl rfl) ?_
                refine rg_put (d := 42) (v := .d (.fl (.bool true))) rfl (og rfl (op_pick rfl rfl rfl rfl)) ?_
                refine rg_done rfl ?_
                refine a_condK rfl rfl ?_
                refine a_rseq ?_
                refine rg_put (d := 2) (v := .d (.fl (.int .i64 1))) rfl (og rfl (op_assign rfl rfl rfl)) ?_
                refine rg_done rfl ?_
                refine a_ret ?_
                show ∃ ds, ResL _ _ _ ds ∧ RV.of ds = _
                refine ⟨[.fl (.int .i64 1)], (.cons (.tmp rfl (.d _)) .nil), ?_⟩
                have hu : rcE x = 1 := by unfold rcE; simp only [h1, h2, h4, h5, h8, h10, h13, h15, Bool.true_or, Bool.false_or, Bool.or_true, Bool.or_false, Bool.not_true, Bool.not_false, cond_true, cond_false, Bool.true_and, Bool.false_and, Bool.and_true, Bool.and_false] <;> rfl
                rw [hu]; rfl
            · skip
              have h24 := f_beq h13
              refine a_skip ?_
              show A _ _ _ _ _ _ _
              refine a_seq ?_
              refine a_rseq ?_
              refine rg_put (d := 43) (v := .pt 101 3) rfl (og rfl (of_eff (s_field_pt rfl Try.underlying43 rfl ti3 rfl rfl rfl) rfl)) ?_
              refine rg_put (d := 44) (v := .d (.fl (.int .i64 x.cents))) rfl (og rfl (op_load_pt rfl Try.underlying3 rfl rfl rfl rfl rfl)) ?_
              refine rg_put (d := 45) (v := .d (.fl (.bool (fitB x.cents)))) rfl (og rfl (op_call rfl Try.func34 nm34 rfl (.cons rfl (.d _) .nil) (fiC x.cents) rfl)) ?_
              refine rg_put (d := 46) (v := .d (.fl (.bool ((!(fitB x.cents)))))) rfl (og rfl (op_un rfl rfl (u_not _) rfl)) ?_
              refine rg_done rfl ?_
              refine a_cond rfl (fun h25 => ?_) (fun h25 => ?_)
              · skip
                have h26 := t_not h25
                refine a_rseq ?_
                refine rg_put (d := 2) (v := .d (.fl (.int .i64 13))) rfl (og rfl (op_assign rfl rfl rfl)) ?_
                refine rg_done rfl ?_
                refine a_ret ?_
                show ∃ ds, ResL _ _ _ ds ∧ RV.of ds = _
                refine ⟨[.fl (.int .i64 13)], (.cons (.tmp rfl (.d _)) .nil), ?_⟩
                have hu : rcE x = 13 := by unfold rcE; simp only [h1, h2, h4, h5, h8, h10, h13, h25, h26, Bool.true_or, Bool.false_or, Bool.or_true, Bool.or_false, Bool.not_true, Bool.not_false, cond_true, cond_false, Bool.true_and, Bool.false_and, Bool.and_true, Bool.and_false] <;> rfl
                rw [hu]; rfl
              · skip
                have h27 := f_not h25
                refine a_skip ?_
                show A _ _ _ _ _ _ _
                refine a_seq ?_
                refine a_rseq ?_
                refine rg_put (d := 47) (v := .pt 101 4) rfl (og rfl (of_eff (s_field_pt rfl Try.underlying43 rfl ti3 rfl rfl rfl) rfl)) ?_
                refine rg_put (d := 48) (v := .d (.fl (.int .i64 x.why))) rfl (og rfl (op_load_pt rfl Try.underlying3 rfl rfl rfl rfl rfl)) ?_
                refine rg_put (d := 49) (v := .d (.fl (.bool (x.why != 0)))) rfl (og rfl (op_bin rfl rfl rfl (b_neq _ _ _ _) rfl)) ?_
                refine rg_done rfl ?_
                refine a_cond rfl (fun h28 => ?_) (fun h28 => ?_)
                · skip
                  have h29 := t_bne h28
                  refine a_rseq ?_
                  refine rg_put (d := 2) (v := .d (.fl (.int .i64 1))) rfl (og rfl (op_assign rfl rfl rfl)) ?_
                  refine rg_done rfl ?_
                  refine a_ret ?_
                  show ∃ ds, ResL _ _ _ ds ∧ RV.of ds = _
                  refine ⟨[.fl (.int .i64 1)], (.cons (.tmp rfl (.d _)) .nil), ?_⟩
                  have hu : rcE x = 1 := by unfold rcE; simp only [h1, h2, h4, h5, h8, h10, h13, h25, h27, h28, Bool.true_or, Bool.false_or, Bool.or_true, Bool.or_false, Bool.not_true, Bool.not_false, cond_true, cond_false, Bool.true_and, Bool.false_and, Bool.and_true, Bool.and_false] <;> rfl
                  rw [hu]; rfl
                · skip
                  have h30 := f_bne h28
                  refine a_skip ?_
                  show A _ _ _ _ _ _ _
                  refine a_rseq ?_
                  refine rg_put (d := 2) (v := .d (.fl (.int .i64 0))) rfl (og rfl (op_assign rfl rfl rfl)) ?_
                  refine rg_done rfl ?_
                  refine a_ret ?_
                  show ∃ ds, ResL _ _ _ ds ∧ RV.of ds = _
                  refine ⟨[.fl (.int .i64 0)], (.cons (.tmp rfl (.d _)) .nil), ?_⟩
                  have hu : rcE x = 0 := by unfold rcE; simp only [h1, h2, h4, h5, h8, h10, h13, h25, h27, h28, Bool.true_or, Bool.false_or, Bool.or_true, Bool.or_false, Bool.not_true, Bool.not_false, cond_true, cond_false, Bool.true_and, Bool.false_and, Bool.and_true, Bool.and_false] <;> rfl
                  rw [hu]; rfl
        · skip
          have h31 := t_dec h8
          refine rg_put (d := 23) (v := .d (.fl undef)) rfl (on rfl rfl rfl h8) ?_
          refine rg_put (d := 24) (v := .d (.fl undef)) rfl (on rfl rfl rfl h8) ?_
          refine rg_put (d := 25) (v := .d (.fl undef)) rfl (on rfl rfl rfl h8) ?_
          refine rg_put (d := 26) (v := .d (.fl (.bool true))) rfl (og rfl (op_pick rfl rfl (by rw [h8]; rfl) rfl)) ?_
          refine rg_put (d := 18) (v := .d (.fl (.bool true))) rfl (og rfl (op_assign rfl rfl rfl)) ?_
          refine rg_done rfl ?_
          refine a_condK rfl rfl ?_
          refine a_rseq ?_
          refine rg_put (d := 2) (v := .d (.fl (.int .i64 12))) rfl (og rfl (op_assign rfl rfl rfl)) ?_
          refine rg_done rfl ?_
          refine a_ret ?_
          show ∃ ds, ResL _ _ _ ds ∧ RV.of ds = _
          refine ⟨[.fl (.int .i64 12)], (.cons (.tmp rfl (.d _)) .nil), ?_⟩
          have hu : rcE x = 12 := by unfold rcE; simp only [h1, h2, h4, h5, h8, Bool.true_or, Bool.false_or, Bool.or_true, Bool.or_false, Bool.not_true, Bool.not_false, cond_true, cond_false, Bool.true_and, Bool.false_and, Bool.and_true, Bool.and_false] <;> rfl
          rw [hu]; rfl
set_option maxHeartbeats 4000000 in
set_option maxRecDepth 100000 in
theorem hdP (f : Fil) : Ctr Try.prog 26 [.ag (eFil f)] (.d (.fl (.int .i64 (hdE f)))) := by
  refine ctr (n := 29) (rs := #[.tmp 2]) (L := [(0, .d (.ag (eFil f)))]) Try.func26 rfl rfl rfl rfl rfl (fun w0 U0 => ?_)
  refine a_rseq ?_
  refine rg_nam (d := 1) (v := .pt 101 0) (m := 101) (nw := [(101, .bx 34 (eFil f))]) rfl (og rfl (of_eff (op_box 101 rfl rfl rfl rfl) rfl)) rfl ?_
  refine rg_put (d := 2) (v := .d (.fl (.int .i64 0))) rfl (og rfl (op_assign rfl rfl rfl)) ?_
  refine rg_done rfl ?_
  refine a_seq ?_
  refine a_block ?_
  refine a_rseq ?_
  refine rg_put (d := 4) (v := .pt 101 0) rfl (og rfl (of_eff (s_field_pt rfl Try.underlying34 rfl ti9 rfl rfl rfl) rfl)) ?_
  refine rg_put (d := 5) (v := .d (.fl (.string f.fr))) rfl (og rfl (op_load_pt rfl Try.underlying9 rfl rfl rfl rfl rfl)) ?_
  refine rg_put (d := 6) (v := .d (.fl (.bool (Nm.nmB f.fr)))) rfl (og rfl (op_call rfl Try.func16 nm16 rfl (.cons rfl (.d _) .nil) (namP f.fr) rfl)) ?_
  refine rg_put (d := 7) (v := .d (.fl (.bool ((!(Nm.nmB f.fr)))))) rfl (og rfl (op_un rfl rfl (u_not _) rfl)) ?_
  refine rg_put (d := 8) (v := .d (.fl (.bool ((!(Nm.nmB f.fr)))))) rfl (og rfl (op_move rfl rfl rfl)) ?_
  rcases fot ((!(Nm.nmB f.fr))) with h1 | h1
  · skip
    have h2 := f_not h1
    refine rg_put (d := 9) (v := .pt 101 1) rfl (oy rfl rfl rfl h1 (of_eff (s_field_pt rfl Try.underlying34 rfl ti9 rfl rfl rfl) rfl)) ?_
    refine rg_put (d := 10) (v := .d (.fl (.string f.to))) rfl (oy rfl rfl rfl h1 (op_load_pt rfl Try.underlying9 rfl rfl rfl rfl rfl)) ?_
    refine rg_put (d := 11) (v := .d (.fl (.bool (Nm.nmB f.to)))) rfl (oy rfl rfl rfl h1 (op_call rfl Try.func16 nm16 rfl (.cons rfl (.d _) .nil) (namP f.to) rfl)) ?_
    refine rg_put (d := 12) (v := .d (.fl (.bool ((!(Nm.nmB f.to)))))) rfl (oy rfl rfl rfl h1 (op_un rfl rfl (u_not _) rfl)) ?_
    refine rg_put (d := 13) (v := .d (.fl (.bool ((!(Nm.nmB f.to)))))) rfl (og rfl (op_pick rfl rfl (by rw [h1]; rfl) rfl)) ?_
    refine rg_put (d := 3) (v := .d (.fl (.bool ((!(Nm.nmB f.to)))))) rfl (og rfl (op_assign rfl rfl rfl)) ?_
    refine rg_done rfl ?_
    refine a_cond rfl (fun h3 => ?_) (fun h3 => ?_)
    · skip
      have h4 := t_not h3
      refine a_rseq ?_
      refine rg_put (d := 2) (v := .d (.fl (.int .i64 6))) rfl (og rfl (op_assign rfl rfl rfl)) ?_
      refine rg_done rfl ?_
      refine a_ret ?_
      show ∃ ds, ResL _ _ _ ds ∧ RV.of ds = _
      refine ⟨[.fl (.int .i64 6)], (.cons (.tmp rfl (.d _)) .nil), ?_⟩
      have hu : hdE f = 6 := by unfold hdE; simp only [h1, h2, h3, h4, Bool.true_or, Bool.false_or, Bool.or_true, Bool.or_false, Bool.not_true, Bool.not_false, cond_true, cond_false, Bool.true_and, Bool.false_and, Bool.and_true, Bool.and_false] <;> rfl
      rw [hu]; rfl
    · skip
      have h5 := f_not h3
      refine a_rseq ?_
      refine rg_put (d := 15) (v := .pt 101 0) rfl (og rfl (of_eff (s_field_pt rfl Try.underlying34 rfl ti9 rfl rfl rfl) rfl)) ?_
      refine rg_put (d := 16) (v := .d (.fl (.string f.fr))) rfl (og rfl (op_load_pt rfl Try.underlying9 rfl rfl rfl rfl rfl)) ?_
      refine rg_put (d := 17) (v := .pt 101 1) rfl (og rfl (of_eff (s_field_pt rfl Try.underlying34 rfl ti9 rfl rfl rfl) rfl)) ?_
      refine rg_put (d := 18) (v := .d (.fl (.string f.to))) rfl (og rfl (op_load_pt rfl Try.underlying9 rfl rfl rfl rfl rfl)) ?_
      refine rg_put (d := 19) (v := .d (.fl (.bool (sEq f.fr f.to)))) rfl (og rfl (op_bin rfl rfl rfl (b_seq _ _ _) rfl)) ?_
      refine rg_put (d := 14) (v := .d (.fl (.bool (sEq f.fr f.to)))) rfl (og rfl (op_assign rfl rfl rfl)) ?_
      refine rg_done rfl ?_
      refine a_cond rfl (fun h6 => ?_) (fun h6 => ?_)
      · skip
        refine a_rseq ?_
        refine rg_put (d := 2) (v := .d (.fl (.int .i64 30))) rfl (og rfl (op_assign rfl rfl rfl)) ?_
        refine rg_done rfl ?_
        refine a_ret ?_
        show ∃ ds, ResL _ _ _ ds ∧ RV.of ds = _
        refine ⟨[.fl (.int .i64 30)], (.cons (.tmp rfl (.d _)) .nil), ?_⟩
        have hu : hdE f = 30 := by unfold hdE; simp only [h1, h2, h3, h5, h6, Bool.true_or, Bool.false_or, Bool.or_true, Bool.or_false, Bool.not_true, Bool.not_false, cond_true, cond_false, Bool.true_and, Bool.false_and, Bool.and_true, Bool.and_false] <;> rfl
        rw [hu]; rfl
      · skip
        refine a_rseq ?_
        refine rg_put (d := 21) (v := .pt 101 2) rfl (og rfl (of_eff (s_field_pt rfl Try.underlying34 rfl ti3 rfl rfl rfl) rfl)) ?_
        refine rg_put (d := 22) (v := .d (.fl (.int .i64 f.seq))) rfl (og rfl (op_load_pt rfl Try.underlying3 rfl rfl rfl rfl rfl)) ?_
        refine rg_put (d := 23) (v := .d (.fl (.bool ((decide (f.seq < 1)))))) rfl (og rfl (op_bin rfl rfl rfl (b_lss _ _ _ _) rfl)) ?_
        refine rg_put (d := 24) (v := .d (.fl (.bool ((decide (f.seq < 1)))))) rfl (og rfl (op_move rfl rfl rfl)) ?_
        rcases fot ((decide (f.seq < 1))) with h7 | h7
        · skip
          have h8 := f_dec h7
          refine rg_put (d := 25) (v := .pt 101 2) rfl (oy rfl rfl rfl h7 (of_eff (s_field_pt rfl Try.underlying34 rfl ti3 rfl rfl rfl) rfl)) ?_
          refine rg_put (d := 26) (v := .d (.fl (.int .i64 f.seq))) rfl (oy rfl rfl rfl h7 (op_load_pt rfl Try.underlying3 rfl rfl rfl rfl rfl)) ?_
          refine rg_put (d := 27) (v := .d (.fl (.bool ((decide (2147483648 < f.seq)))))) rfl (oy rfl rfl rfl h7 (op_bin rfl rfl rfl (b_gtr _ _ _ _) rfl)) ?_
          refine rg_put (d := 28) (v := .d (.fl (.bool ((decide (2147483648 < f.seq)))))) rfl (og rfl (op_pick rfl rfl (by rw [h7]; rfl) rfl)) ?_
          refine rg_put (d := 20) (v := .d (.fl (.bool ((decide (2147483648 < f.seq)))))) rfl (og rfl (op_assign rfl rfl rfl)) ?_
          refine rg_done rfl ?_
          refine a_cond rfl (fun h9 => ?_) (fun h9 => ?_)
          · skip
            have h10 := t_dec h9
            refine a_rseq ?_
            refine rg_put (d := 2) (v := .d (.fl (.int .i64 31))) rfl (og rfl (op_assign rfl rfl rfl)) ?_
            refine rg_done rfl ?_
            refine a_ret ?_
            show ∃ ds, ResL _ _ _ ds ∧ RV.of ds = _
            refine ⟨[.fl (.int .i64 31)], (.cons (.tmp rfl (.d _)) .nil), ?_⟩
            have hu : hdE f = 31 := by unfold hdE; simp only [h1, h2, h3, h5, h6, h7, h9, Bool.true_or, Bool.false_or, Bool.or_true, Bool.or_false, Bool.not_true, Bool.not_false, cond_true, cond_false, Bool.true_and, Bool.false_and, Bool.and_true, Bool.and_false] <;> rfl
            rw [hu]; rfl
          · skip
            have h11 := f_dec h9
            refine a_skip ?_
            show A _ _ _ _ _ _ _
            refine a_rseq ?_
            refine rg_put (d := 2) (v := .d (.fl (.int .i64 0))) rfl (og rfl (op_assign rfl rfl rfl)) ?_
            refine rg_done rfl ?_
            refine a_ret ?_
            show ∃ ds, ResL _ _ _ ds ∧ RV.of ds = _
            refine ⟨[.fl (.int .i64 0)], (.cons (.tmp rfl (.d _)) .nil), ?_⟩
            have hu : hdE f = 0 := by unfold hdE; simp only [h1, h2, h3, h5, h6, h7, h9, Bool.true_or, Bool.false_or, Bool.or_true, Bool.or_false, Bool.not_true, Bool.not_false, cond_true, cond_false, Bool.true_and, Bool.false_and, Bool.and_true, Bool.and_false] <;> rfl
            rw [hu]; rfl
        · skip
          have h12 := t_dec h7
          refine rg_put (d := 25) (v := .d (.fl undef)) rfl (on rfl rfl rfl h7) ?_
          refine rg_put (d := 26) (v := .d (.fl undef)) rfl (on rfl rfl rfl h7) ?_
          refine rg_put (d := 27) (v := .d (.fl undef)) rfl (on rfl rfl rfl h7) ?_
          refine rg_put (d := 28) (v := .d (.fl (.bool true))) rfl (og rfl (op_pick rfl rfl (by rw [h7]; rfl) rfl)) ?_
          refine rg_put (d := 20) (v := .d (.fl (.bool true))) rfl (og rfl (op_assign rfl rfl rfl)) ?_
          refine rg_done rfl ?_
          refine a_condK rfl rfl ?_
          refine a_rseq ?_
          refine rg_put (d := 2) (v := .d (.fl (.int .i64 31))) rfl (og rfl (op_assign rfl rfl rfl)) ?_
          refine rg_done rfl ?_
          refine a_ret ?_
          show ∃ ds, ResL _ _ _ ds ∧ RV.of ds = _
          refine ⟨[.fl (.int .i64 31)], (.cons (.tmp rfl (.d _)) .nil), ?_⟩
          have hu : hdE f = 31 := by unfold hdE; simp only [h1, h2, h3, h5, h6, h7, Bool.true_or, Bool.false_or, Bool.or_true, Bool.or_false, Bool.not_true, Bool.not_false, cond_true, cond_false, Bool.true_and, Bool.false_and, Bool.and_true, Bool.and_false] <;> rfl
          rw [hu]; rfl
  · skip
    have h13 := t_not h1
    refine rg_put (d := 9) (v := .d (.fl undef)) rfl (on rfl rfl rfl h1) ?_
    refine rg_put (d := 10) (v := .d (.fl undef)) rfl (on rfl rfl rfl h1) ?_
    refine rg_put (d := 11) (v := .d (.fl undef)) rfl (on rfl rfl rfl h1) ?_
    refine rg_put (d := 12) (v := .d (.fl undef)) rfl (on rfl rfl rfl h1) ?_
    refine rg_put (d := 13) (v := .d (.fl (.bool true))) rfl (og rfl (op_pick rfl rfl (by rw [h1]; rfl) rfl)) ?_
    refine rg_put (d := 3) (v := .d (.fl (.bool true))) rfl (og rfl (op_assign rfl rfl rfl)) ?_
    refine rg_done rfl ?_
    refine a_condK rfl rfl ?_
    refine a_rseq ?_
    refine rg_put (d := 2) (v := .d (.fl (.int .i64 6))) rfl (og rfl (op_assign rfl rfl rfl)) ?_
    refine rg_done rfl ?_
    refine a_ret ?_
    show ∃ ds, ResL _ _ _ ds ∧ RV.of ds = _
    refine ⟨[.fl (.int .i64 6)], (.cons (.tmp rfl (.d _)) .nil), ?_⟩
    have hu : hdE f = 6 := by unfold hdE; simp only [h1, h13, Bool.true_or, Bool.false_or, Bool.or_true, Bool.or_false, Bool.not_true, Bool.not_false, cond_true, cond_false, Bool.true_and, Bool.false_and, Bool.and_true, Bool.and_false] <;> rfl
    rw [hu]; rfl
set_option maxHeartbeats 4000000 in
set_option maxRecDepth 100000 in
theorem tfP (f : Fil) (hl : f.recs.length ≤ 1024) : Ctr Try.prog 28 [.ag (eFil f)] (.tu [.fl (.int .i64 (tfE f.recs).1), .fl (.int .i64 (tfE f.recs).2)]) := by
  refine ctr (n := 32) (rs := #[.tmp 2, .tmp 3]) (L := [(0, .d (.ag (eFil f)))]) Try.func28 rfl rfl rfl rfl rfl (fun w0 U0 => ?_)
  refine a_rseq ?_
  refine rg_nam (d := 1) (v := .pt 101 0) (m := 101) (nw := [(101, .bx 34 (eFil f))]) rfl (og rfl (of_eff (op_box 101 rfl rfl rfl rfl) rfl)) rfl ?_
  refine rg_put (d := 2) (v := .d (.fl (.int .i64 0))) rfl (og rfl (op_assign rfl rfl rfl)) ?_
  refine rg_put (d := 3) (v := .d (.fl (.int .i64 0))) rfl (og rfl (op_assign rfl rfl rfl)) ?_
  refine rg_done rfl ?_
  refine a_rseq ?_
  refine rg_put (d := 4) (v := .d (.fl (.slice none 0 0))) rfl (og rfl (op_assign rfl rfl rfl)) ?_
  refine rg_done rfl ?_
  refine a_seq ?_
  refine a_rseq ?_
  refine rg_imp (imp_nilT 4 102 3 1 rfl rfl) ?_
  refine rg_put (d := 7) (v := .pt 101 3) rfl (og rfl (of_eff (s_field_pt rfl Try.underlying34 rfl ti26 rfl rfl rfl) rfl)) ?_
  refine rg_put (d := 8) (v := .d (.sl 5 (List.map eRec f.recs))) rfl (og rfl (op_load_pt rfl Try.underlying26 rfl rfl rfl rfl rfl)) ?_
  refine rg_put (d := 9) (v := .d (.fl (.int .i64 (f.recs.length : Int)))) rfl (og rfl (s_len rfl Try.underlying26 rfl rfl)) ?_
  refine rg_put (d := 10) (v := .d (.fl (.int .i64 0))) rfl (og rfl (op_move rfl rfl rfl)) ?_
  refine rg_done rfl ?_
  refine a_block ?_
  refine a_loop (ι := Nat) (fun k => SS [(0, .d (.ag (eFil f))), (1, .pt 101 0), (2, .d (.fl (.int .i64 0))), (3, .d (.fl (.int .i64 0))), (8, .d (.sl 5 (List.map eRec f.recs))), (9, .d (.fl (.int .i64 (f.recs.length : Int)))), (10, .d (.fl (.int .i64 (k : Int)))), (4, .ow 102)] [(101, .bx 34 (eFil f)), (102, .tr 3 1 (tD (rI .i64) (cl f.recs k)))]) (fun k => k ≤ f.recs.length) (fun k => f.recs.length - k) 0 (by omega) (imp_forget rfl ⟨rfl, rfl, rfl, rfl, rfl, rfl, (by first | rfl | exact ci (by omega) | exact ci (by simp) | exact cd (by simp) | simp), (by first | rfl | exact ci (by omega) | exact ci (by simp) | exact cd (by simp) | simp), trivial⟩ ⟨rfl, rfl, trivial⟩) (fun k hok => ?_)
  have hk := hok
  have hcl := cl_len f.recs k
  refine a_rseq ?_
  refine rg_put (d := 11) (v := .d (.fl (.bool ((decide ((k : Int) < (f.recs.length : Int))))))) rfl (og rfl (op_bin rfl rfl rfl (b_lss _ _ _ _) rfl)) ?_
  refine rg_done rfl ?_
  refine a_seq ?_
  refine a_cond rfl (fun h1 => ?_) (fun h1 => ?_)
  · skip
    have h2 := t_dec h1
    refine a_skip ?_
    show A _ _ _ _ _ _ _
    refine a_seq ?_
    refine a_block ?_
    refine a_rseq ?_
    refine rg_put (d := 12) (v := .el ((eRec (ix f.recs k)))) rfl (og rfl (s_index rfl Try.underlying26 ti43 rfl rfl (by omega) (row_at (by omega)) rfl)) ?_
    refine rg_put (d := 13) (v := .d (.ag (eRec (ix f.recs k)))) rfl (og rfl (of_eff (s_load_els rfl Try.underlying43 rfl ti43 rfl rfl rfl) rfl)) ?_
    refine rg_nam (d := 6) (v := .pt 103 0) (m := 103) (nw := [(103, .bx 43 ([.fl (.int .i64 0), .fl (.string (⟨#[]⟩)), .fl (.int .i64 0), .fl (.int .i64 0), .fl (.int .i64 0)]))]) rfl (og rfl (of_eff (s_alloc 103 rfl ti43 (by kernel_rfl) rfl) rfl)) rfl ?_
    refine rg_sto (nw := [(103, .bx 43 ((eRec (ix f.recs k))))]) rfl (og rfl (of_eff (s_store rfl rfl ti43 rfl rfl rfl rfl rfl rfl) rfl)) ?_
    refine rg_done rfl ?_
    refine a_rseq ?_
    refine rg_put (d := 14) (v := .pt 103 0) rfl (og rfl (of_eff (s_field_pt rfl Try.underlying43 rfl ti3 rfl rfl rfl) rfl)) ?_
    refine rg_put (d := 15) (v := .d (.fl (.int .i64 ((ix f.recs k).kind)))) rfl (og rfl (op_load_pt rfl Try.underlying3 rfl rfl rfl rfl rfl)) ?_
    refine rg_put (d := 16) (v := .d (.fl (.bool (((ix f.recs k).kind == 1))))) rfl (og rfl (op_bin rfl rfl rfl (b_eql _ _ _ _) rfl)) ?_
    refine rg_put (d := 17) (v := .d (.fl (.bool (((ix f.recs k).kind == 1))))) rfl (og rfl (op_move rfl rfl rfl)) ?_
    rcases fot (((ix f.recs k).kind == 1)) with h3 | h3
    · skip
      have h4 := f_beq h3
      refine rg_put (d := 18) (v := .pt 103 0) rfl (oy rfl rfl rfl h3 (of_eff (s_field_pt rfl Try.underlying43 rfl ti3 rfl rfl rfl) rfl)) ?_
      refine rg_put (d := 19) (v := .d (.fl (.int .i64 ((ix f.recs k).kind)))) rfl (oy rfl rfl rfl h3 (op_load_pt rfl Try.underlying3 rfl rfl rfl rfl rfl)) ?_
      refine rg_put (d := 20) (v := .d (.fl (.bool (((ix f.recs k).kind == 2))))) rfl (oy rfl rfl rfl h3 (op_bin rfl rfl rfl (b_eql _ _ _ _) rfl)) ?_
      refine rg_put (d := 21) (v := .d (.fl (.bool (((ix f.recs k).kind == 2))))) rfl (og rfl (op_pick rfl rfl (by rw [h3]; rfl) rfl)) ?_
      refine rg_done rfl ?_
      refine a_cond rfl (fun h5 => ?_) (fun h5 => ?_)
      · skip
        have h6 := t_beq h5
        refine a_region ?_
        refine rg_put (d := 22) (v := .ow 102) rfl (og rfl (op_move rfl rfl rfl)) ?_
        refine rg_put (d := 23) (v := .pt 103 3) rfl (og rfl (of_eff (s_field_pt rfl Try.underlying43 rfl ti3 rfl rfl rfl) rfl)) ?_
        refine rg_put (d := 24) (v := .d (.fl (.int .i64 ((ix f.recs k).cents)))) rfl (og rfl (op_load_pt rfl Try.underlying3 rfl rfl rfl rfl rfl)) ?_
        refine rg_put (d := 25) (v := .d (.sl 1 (List.map (rI .i64) [(ix f.recs k).cents]))) rfl (og rfl (of_eff (op_slices rfl Try.underlying67 ti3 rfl rfl rfl (by kernel_rfl) (xs := [.fl (.int .i64 ((ix f.recs k).cents))]) rfl rfl (.cons rfl rfl (.d _) rfl rfl rfl .nil) rfl) rfl)) ?_
        refine rg_nam (d := 26) (v := .ow 104) (m := 104) (nw := [(104, .tr 3 1 (tD (rI .i64) (((cl f.recs k) ++ [(ix f.recs k).cents])))), (102, .no)]) rfl (og rfl (of_eff (s_append_td 104 rfl Try.underlying67 ti3 rfl rfl rfl rfl rfl (.d _) (by simp only [List.length_append, List.length_cons, List.length_nil]; omega) rfl) rfl)) rfl ?_
        refine rg_put (d := 4) (v := .ow 104) rfl (og rfl (op_assign rfl rfl rfl)) ?_
        refine rg_done rfl ?_
        show A _ _ _ _ _ _ _
        refine a_region ?_
        refine rg_put (d := 27) (v := .d (.fl (.int .i64 (((k : Int) + 1))))) rfl (og rfl (op_bin rfl rfl rfl (fun x y w => b_add64 _ _ _ x y w (by omega)) rfl)) ?_
        refine rg_put (d := 10) (v := .d (.fl (.int .i64 (((k : Int) + 1))))) rfl (og rfl (op_move rfl rfl rfl)) ?_
        refine rg_done rfl ?_
        have hck : (ck (ix f.recs k)) = true := by unfold ck; simp only [h1, h3, h5, Bool.true_or, Bool.false_or, Bool.or_true, Bool.or_false, Bool.not_true, Bool.not_false, cond_true, cond_false, Bool.true_and, Bool.false_and, Bool.and_true, Bool.and_false] <;> rfl
        have hst : _ = cl f.recs (k + 1) := cl_y (by omega) hck
        show ∃ i, _ ∧ _ ∧ Imp _ _ _ _ _
        refine ⟨k + 1, (by omega), by omega, imp_ren (fun m => bif Nat.beq m 102 then 104 else m) rfl ⟨rfl, rfl, rfl, rfl, rfl, rfl, (by first | rfl | exact ci (by omega) | exact ci (by simp) | exact cd (by simp) | simp), rfl, trivial⟩ ⟨rfl, (congrArg (fun z => Ob.tr 3 1 (tD (rI .i64) z)) hst), trivial⟩⟩
      · skip
        have h7 := f_beq h5
        refine a_skip ?_
        show A _ _ _ _ _ _ _
        refine a_region ?_
        refine rg_put (d := 27) (v := .d (.fl (.int .i64 (((k : Int) + 1))))) rfl (og rfl (op_bin rfl rfl rfl (fun x y w => b_add64 _ _ _ x y w (by omega)) rfl)) ?_
        refine rg_put (d := 10) (v := .d (.fl (.int .i64 (((k : Int) + 1))))) rfl (og rfl (op_move rfl rfl rfl)) ?_
        refine rg_done rfl ?_
        have hck : (ck (ix f.recs k)) = false := by unfold ck; simp only [h1, h3, h5, Bool.true_or, Bool.false_or, Bool.or_true, Bool.or_false, Bool.not_true, Bool.not_false, cond_true, cond_false, Bool.true_and, Bool.false_and, Bool.and_true, Bool.and_false] <;> rfl
        have hst : _ = cl f.recs (k + 1) := cl_n (by omega) hck
        show ∃ i, _ ∧ _ ∧ Imp _ _ _ _ _
        refine ⟨k + 1, (by omega), by omega, imp_forget rfl ⟨rfl, rfl, rfl, rfl, rfl, rfl, (by first | rfl | exact ci (by omega) | exact ci (by simp) | exact cd (by simp) | simp), rfl, trivial⟩ ⟨rfl, (congrArg (fun z => Ob.tr 3 1 (tD (rI .i64) z)) hst), trivial⟩⟩
    · skip
      have h8 := t_beq h3
      refine rg_put (d := 18) (v := .d (.fl undef)) rfl (on rfl rfl rfl h3) ?_
      refine rg_put (d := 19) (v := .d (.fl undef)) rfl (on rfl rfl rfl h3) ?_
      refine rg_put (d := 20) (v := .d (.fl undef)) rfl (on rfl rfl rfl h3) ?_
      refine rg_put (d := 21) (v := .d (.fl (.bool true))) rfl (og rfl (op_pick rfl rfl (by rw [h3]; rfl) rfl)) ?_
      refine rg_done rfl ?_
      refine a_condK rfl rfl ?_
      refine a_region ?_
      refine rg_put (d := 22) (v := .ow 102) rfl (og rfl (op_move rfl rfl rfl)) ?_
      refine rg_put (d := 23) (v := .pt 103 3) rfl (og rfl (of_eff (s_field_pt rfl Try.underlying43 rfl ti3 rfl rfl rfl) rfl)) ?_
      refine rg_put (d := 24) (v := .d (.fl (.int .i64 ((ix f.recs k).cents)))) rfl (og rfl (op_load_pt rfl Try.underlying3 rfl rfl rfl rfl rfl)) ?_
      refine rg_put (d := 25) (v := .d (.sl 1 (List.map (rI .i64) [(ix f.recs k).cents]))) rfl (og rfl (of_eff (op_slices rfl Try.underlying67 ti3 rfl rfl rfl (by kernel_rfl) (xs := [.fl (.int .i64 ((ix f.recs k).cents))]) rfl rfl (.cons rfl rfl (.d _) rfl rfl rfl .nil) rfl) rfl)) ?_
      refine rg_nam (d := 26) (v := .ow 105) (m := 105) (nw := [(105, .tr 3 1 (tD (rI .i64) (((cl f.recs k) ++ [(ix f.recs k).cents])))), (102, .no)]) rfl (og rfl (of_eff (s_append_td 105 rfl Try.underlying67 ti3 rfl rfl rfl rfl rfl (.d _) (by simp only [List.length_append, List.length_cons, List.length_nil]; omega) rfl) rfl)) rfl ?_
      refine rg_put (d := 4) (v := .ow 105) rfl (og rfl (op_assign rfl rfl rfl)) ?_
      refine rg_done rfl ?_
      show A _ _ _ _ _ _ _
      refine a_region ?_
      refine rg_put (d := 27) (v := .d (.fl (.int .i64 (((k : Int) + 1))))) rfl (og rfl (op_bin rfl rfl rfl (fun x y w => b_add64 _ _ _ x y w (by omega)) rfl)) ?_
      refine rg_put (d := 10) (v := .d (.fl (.int .i64 (((k : Int) + 1))))) rfl (og rfl (op_move rfl rfl rfl)) ?_
      refine rg_done rfl ?_
      have hck : (ck (ix f.recs k)) = true := by unfold ck; simp only [h1, h3, Bool.true_or, Bool.false_or, Bool.or_true, Bool.or_false, Bool.not_true, Bool.not_false, cond_true, cond_false, Bool.true_and, Bool.false_and, Bool.and_true, Bool.and_false] <;> rfl
      have hst : _ = cl f.recs (k + 1) := cl_y (by omega) hck
      show ∃ i, _ ∧ _ ∧ Imp _ _ _ _ _
      refine ⟨k + 1, (by omega), by omega, imp_ren (fun m => bif Nat.beq m 102 then 105 else m) rfl ⟨rfl, rfl, rfl, rfl, rfl, rfl, (by first | rfl | exact ci (by omega) | exact ci (by simp) | exact cd (by simp) | simp), rfl, trivial⟩ ⟨rfl, (congrArg (fun z => Ob.tr 3 1 (tD (rI .i64) z)) hst), trivial⟩⟩
  · skip
    have h9 := f_dec h1
    refine a_exit ?_
    show A _ _ _ _ _ _ _
    refine a_rseq ?_
    rw [show (cl f.recs k) = (cl f.recs f.recs.length) from (by rw [show k = f.recs.length by omega])]
    have hcl2 := cl_len f.recs f.recs.length
    refine rg_put (d := 28) (v := .ow 102) rfl (og rfl (op_move rfl rfl rfl)) ?_
    refine rg_imp (imp_leakT 28 102 rfl rfl) ?_
    refine rg_put (d := 29) (v := .tu [.fl (.int .i64 ((tot (cl f.recs f.recs.length)).1)), .fl (.int .i64 ((tot (cl f.recs f.recs.length)).2))]) rfl (og rfl (op_call rfl Try.func35 nm35 rfl (.cons rfl (.d _) .nil) (suP (cl f.recs f.recs.length) (by omega)) rfl)) ?_
    refine rg_put (d := 30) (v := .d (.fl (.int .i64 ((tot (cl f.recs f.recs.length)).1)))) rfl (og rfl (op_extract rfl rfl rfl rfl)) ?_
    refine rg_put (d := 31) (v := .d (.fl (.int .i64 ((tot (cl f.recs f.recs.length)).2)))) rfl (og rfl (op_extract rfl rfl rfl rfl)) ?_
    refine rg_put (d := 2) (v := .d (.fl (.int .i64 ((tot (cl f.recs f.recs.length)).1)))) rfl (og rfl (op_assign rfl rfl rfl)) ?_
    refine rg_put (d := 3) (v := .d (.fl (.int .i64 ((tot (cl f.recs f.recs.length)).2)))) rfl (og rfl (op_assign rfl rfl rfl)) ?_
    refine rg_done rfl ?_
    refine a_ret ?_
    show ∃ ds, ResL _ _ _ ds ∧ RV.of ds = _
    refine ⟨[.fl (.int .i64 ((tot (cl f.recs f.recs.length)).1)), .fl (.int .i64 ((tot (cl f.recs f.recs.length)).2))], (.cons (.tmp rfl (.d _)) (.cons (.tmp rfl (.d _)) .nil)), ?_⟩
    rw [tot_cl]; rfl
set_option maxHeartbeats 4000000 in
set_option maxRecDepth 100000 in
theorem ckP (f : Fil) (hkk : ∀ x ∈ f.recs, x.key.size ≤ 300) : Ctr Try.prog 18 [.ag (eFil f)] (.d (.fl (.int .i64 (ckF f)))) := by
  refine ctr (n := 37) (rs := #[.tmp 2]) (L := [(0, .d (.ag (eFil f)))]) Try.func18 rfl rfl rfl rfl rfl (fun w0 U0 => ?_)
  refine a_rseq ?_
  refine rg_nam (d := 1) (v := .pt 101 0) (m := 101) (nw := [(101, .bx 34 (eFil f))]) rfl (og rfl (of_eff (op_box 101 rfl rfl rfl rfl) rfl)) rfl ?_
  refine rg_put (d := 2) (v := .d (.fl (.int .i64 0))) rfl (og rfl (op_assign rfl rfl rfl)) ?_
  refine rg_done rfl ?_
  refine a_seq ?_
  refine a_rseq ?_
  refine rg_put (d := 9) (v := .d (.ag (eFil f))) rfl (og rfl (of_eff (s_load_pts rfl Try.underlying34 rfl ti34 rfl rfl rfl rfl) rfl)) ?_
  refine rg_put (d := 10) (v := .d (.fl (.int .i64 (hdE f)))) rfl (og rfl (op_call rfl Try.func26 nm26 rfl (.cons rfl (.d _) .nil) (hdP f) rfl)) ?_
  refine rg_put (d := 3) (v := .d (.fl (.int .i64 (hdE f)))) rfl (og rfl (op_assign rfl rfl rfl)) ?_
  refine rg_done rfl ?_
  refine a_rseq ?_
  refine rg_put (d := 11) (v := .d (.fl (.int .i64 (hdE f)))) rfl (og rfl (op_move rfl rfl rfl)) ?_
  refine rg_put (d := 12) (v := .d (.fl (.bool (((hdE f) != 0))))) rfl (og rfl (op_bin rfl rfl rfl (b_neq _ _ _ _) rfl)) ?_
  refine rg_done rfl ?_
  refine a_cond rfl (fun h1 => ?_) (fun h1 => ?_)
  · skip
    have h2 := t_bne h1
    refine a_rseq ?_
    refine rg_put (d := 13) (v := .d (.fl (.int .i64 (hdE f)))) rfl (og rfl (op_move rfl rfl rfl)) ?_
    refine rg_put (d := 2) (v := .d (.fl (.int .i64 (hdE f)))) rfl (og rfl (op_assign rfl rfl rfl)) ?_
    refine rg_done rfl ?_
    refine a_ret ?_
    show ∃ ds, ResL _ _ _ ds ∧ RV.of ds = _
    refine ⟨[.fl (.int .i64 (hdE f))], (.cons (.tmp rfl (.d _)) .nil), ?_⟩
    have hu : ckF f = (hdE f) := by unfold ckF; simp only [h1, Bool.true_or, Bool.false_or, Bool.or_true, Bool.or_false, Bool.not_true, Bool.not_false, cond_true, cond_false, Bool.true_and, Bool.false_and, Bool.and_true, Bool.and_false] <;> rfl
    rw [hu]; rfl
  · skip
    have h3 := f_bne h1
    refine a_skip ?_
    show A _ _ _ _ _ _ _
    refine a_seq ?_
    refine a_rseq ?_
    refine rg_put (d := 14) (v := .pt 101 3) rfl (og rfl (of_eff (s_field_pt rfl Try.underlying34 rfl ti26 rfl rfl rfl) rfl)) ?_
    refine rg_put (d := 15) (v := .d (.sl 5 (List.map eRec f.recs))) rfl (og rfl (op_load_pt rfl Try.underlying26 rfl rfl rfl rfl rfl)) ?_
    refine rg_put (d := 16) (v := .d (.fl (.int .i64 (f.recs.length : Int)))) rfl (og rfl (s_len rfl Try.underlying26 rfl rfl)) ?_
    refine rg_put (d := 17) (v := .d (.fl (.bool ((decide (1024 < (f.recs.length : Int))))))) rfl (og rfl (op_bin rfl rfl rfl (b_gtr _ _ _ _) rfl)) ?_
    refine rg_done rfl ?_
    refine a_cond rfl (fun h4 => ?_) (fun h4 => ?_)
    · skip
      have h5 := t_dec h4
      refine a_rseq ?_
      refine rg_put (d := 2) (v := .d (.fl (.int .i64 3))) rfl (og rfl (op_assign rfl rfl rfl)) ?_
      refine rg_done rfl ?_
      refine a_ret ?_
      show ∃ ds, ResL _ _ _ ds ∧ RV.of ds = _
      refine ⟨[.fl (.int .i64 3)], (.cons (.tmp rfl (.d _)) .nil), ?_⟩
      have hu : ckF f = 3 := by unfold ckF; simp only [h1, h4, Bool.true_or, Bool.false_or, Bool.or_true, Bool.or_false, Bool.not_true, Bool.not_false, cond_true, cond_false, Bool.true_and, Bool.false_and, Bool.and_true, Bool.and_false] <;> rfl
      rw [hu]; rfl
    · skip
      have h6 := f_dec h4
      refine a_skip ?_
      show A _ _ _ _ _ _ _
      refine a_seq ?_
      refine a_rseq ?_
      refine rg_put (d := 18) (v := .pt 101 3) rfl (og rfl (of_eff (s_field_pt rfl Try.underlying34 rfl ti26 rfl rfl rfl) rfl)) ?_
      refine rg_put (d := 19) (v := .d (.sl 5 (List.map eRec f.recs))) rfl (og rfl (op_load_pt rfl Try.underlying26 rfl rfl rfl rfl rfl)) ?_
      refine rg_put (d := 20) (v := .d (.fl (.int .i64 (f.recs.length : Int)))) rfl (og rfl (s_len rfl Try.underlying26 rfl rfl)) ?_
      refine rg_put (d := 21) (v := .d (.fl (.int .i64 0))) rfl (og rfl (op_move rfl rfl rfl)) ?_
      refine rg_done rfl ?_
      refine a_block ?_
      refine a_loop (ι := Nat) (fun k => SS [(0, .d (.ag (eFil f))), (1, .pt 101 0), (3, .d (.fl (.int .i64 (hdE f)))), (12, .d (.fl (.bool (((hdE f) != 0))))), (17, .d (.fl (.bool ((decide (1024 < (f.recs.length : Int))))))), (19, .d (.sl 5 (List.map eRec f.recs))), (20, .d (.fl (.int .i64 (f.recs.length : Int)))), (21, .d (.fl (.int .i64 (k : Int))))] [(101, .bx 34 (eFil f))]) (fun k => k ≤ f.recs.length ∧ rE f.recs = fe (rr f.recs) k (f.recs.length - k)) (fun k => f.recs.length - k) 0 (⟨by omega, rfl⟩) (imp_forget rfl ⟨rfl, rfl, rfl, rfl, rfl, rfl, rfl, (by first | rfl | exact ci (by omega) | exact ci (by simp) | exact cd (by simp) | simp), trivial⟩ ⟨rfl, trivial⟩) (fun k hok => ?_)
      obtain ⟨hk, hc⟩ := hok
      refine a_rseq ?_
      refine rg_put (d := 22) (v := .d (.fl (.bool ((decide ((k : Int) < (f.recs.length : Int))))))) rfl (og rfl (op_bin rfl rfl rfl (b_lss _ _ _ _) rfl)) ?_
      refine rg_done rfl ?_
      refine a_seq ?_
      refine a_cond rfl (fun h7 => ?_) (fun h7 => ?_)
      · skip
        have h8 := t_dec h7
        refine a_skip ?_
        show A _ _ _ _ _ _ _
        refine a_seq ?_
        refine a_block ?_
        refine a_rseq ?_
        refine rg_put (d := 23) (v := .el ((eRec (ix f.recs k)))) rfl (og rfl (s_index rfl Try.underlying26 ti43 rfl rfl (by omega) (row_at (by omega)) rfl)) ?_
        refine rg_put (d := 24) (v := .d (.ag (eRec (ix f.recs k)))) rfl (og rfl (of_eff (s_load_els rfl Try.underlying43 rfl ti43 rfl rfl rfl) rfl)) ?_
        refine rg_nam (d := 5) (v := .pt 102 0) (m := 102) (nw := [(102, .bx 43 ([.fl (.int .i64 0), .fl (.string (⟨#[]⟩)), .fl (.int .i64 0), .fl (.int .i64 0), .fl (.int .i64 0)]))]) rfl (og rfl (of_eff (s_alloc 102 rfl ti43 (by kernel_rfl) rfl) rfl)) rfl ?_
        refine rg_sto (nw := [(102, .bx 43 ((eRec (ix f.recs k))))]) rfl (og rfl (of_eff (s_store rfl rfl ti43 rfl rfl rfl rfl rfl rfl) rfl)) ?_
        refine rg_done rfl ?_
        refine a_rseq ?_
        refine rg_put (d := 25) (v := .d (.ag (eRec (ix f.recs k)))) rfl (og rfl (of_eff (s_load_pts rfl Try.underlying43 rfl ti43 rfl rfl rfl rfl) rfl)) ?_
        refine rg_put (d := 26) (v := .d (.fl (.int .i64 ((rcE (ix f.recs k)))))) rfl (og rfl (op_call rfl Try.func27 nm27 rfl (.cons rfl (.d _) .nil) (rcP (ix f.recs k) (by have := hkk _ (ix_mem (by omega : k < f.recs.length)); omega)) rfl)) ?_
        refine rg_put (d := 6) (v := .d (.fl (.int .i64 ((rcE (ix f.recs k)))))) rfl (og rfl (op_assign rfl rfl rfl)) ?_
        refine rg_done rfl ?_
        refine a_rseq ?_
        refine rg_put (d := 27) (v := .d (.fl (.int .i64 ((rcE (ix f.recs k)))))) rfl (og rfl (op_move rfl rfl rfl)) ?_
        refine rg_put (d := 28) (v := .d (.fl (.bool (((rcE (ix f.recs k)) != 0))))) rfl (og rfl (op_bin rfl rfl rfl (b_neq _ _ _ _) rfl)) ?_
        refine rg_done rfl ?_
        refine a_cond rfl (fun h9 => ?_) (fun h9 => ?_)
        · skip
          have h10 := t_bne h9
          refine a_rseq ?_
          refine rg_put (d := 29) (v := .d (.fl (.int .i64 ((rcE (ix f.recs k)))))) rfl (og rfl (op_move rfl rfl rfl)) ?_
          refine rg_put (d := 2) (v := .d (.fl (.int .i64 ((rcE (ix f.recs k)))))) rfl (og rfl (op_assign rfl rfl rfl)) ?_
          refine rg_done rfl ?_
          refine a_ret ?_
          show ∃ ds, ResL _ _ _ ds ∧ RV.of ds = _
          refine ⟨[.fl (.int .i64 ((rcE (ix f.recs k))))], (.cons (.tmp rfl (.d _)) .nil), ?_⟩
          have hb9 : rr f.recs k = rcE (ix f.recs k) := rfl
          have gS : rE f.recs = rcE (ix f.recs k) := fe_yes (by omega) hc hb9 (t_bne h9)
          have gR : (rE f.recs != 0) = true := by rw [gS]; exact h9
          have hu : ckF f = (rcE (ix f.recs k)) := by unfold ckF; simp only [gR, gS, h1, h4, h7, h9, Bool.true_or, Bool.false_or, Bool.or_true, Bool.or_false, Bool.not_true, Bool.not_false, cond_true, cond_false, Bool.true_and, Bool.false_and, Bool.and_true, Bool.and_false] <;> rfl
          rw [hu]; rfl
        · skip
          have h11 := f_bne h9
          refine a_skip ?_
          show A _ _ _ _ _ _ _
          refine a_region ?_
          refine rg_put (d := 30) (v := .d (.fl (.int .i64 (((k : Int) + 1))))) rfl (og rfl (op_bin rfl rfl rfl (fun x y w => b_add64 _ _ _ x y w (by omega)) rfl)) ?_
          refine rg_put (d := 21) (v := .d (.fl (.int .i64 (((k : Int) + 1))))) rfl (og rfl (op_move rfl rfl rfl)) ?_
          refine rg_done rfl ?_
          have hb : rr f.recs k = 0 := f_bne h9
          show ∃ i, _ ∧ _ ∧ Imp _ _ _ _ _
          refine ⟨k + 1, ⟨by omega, fe_no (by omega) hc hb⟩, by omega, imp_forget rfl ⟨rfl, rfl, rfl, rfl, rfl, rfl, rfl, (by first | rfl | exact ci (by omega) | exact ci (by simp) | exact cd (by simp) | simp), trivial⟩ ⟨rfl, trivial⟩⟩
      · skip
        have h12 := f_dec h7
        refine a_exit ?_
        show A _ _ _ _ _ _ _
        refine a_rseq ?_
        refine rg_put (d := 32) (v := .d (.ag (eFil f))) rfl (og rfl (of_eff (s_load_pts rfl Try.underlying34 rfl ti34 rfl rfl rfl rfl) rfl)) ?_
        refine rg_put (d := 33) (v := .tu [.fl (.int .i64 ((tfE f.recs).1)), .fl (.int .i64 ((tfE f.recs).2))]) rfl (og rfl (op_call rfl Try.func28 nm28 rfl (.cons rfl (.d _) .nil) (tfP f (by omega)) rfl)) ?_
        refine rg_put (d := 31) (v := .tu [.fl (.int .i64 ((tfE f.recs).1)), .fl (.int .i64 ((tfE f.recs).2))]) rfl (og rfl (op_move rfl rfl rfl)) ?_
        refine rg_put (d := 34) (v := .d (.fl (.int .i64 ((tfE f.recs).1)))) rfl (og rfl (op_extract rfl rfl rfl rfl)) ?_
        refine rg_put (d := 35) (v := .d (.fl (.int .i64 ((tfE f.recs).2)))) rfl (og rfl (op_extract rfl rfl rfl rfl)) ?_
        refine rg_put (d := 7) (v := .d (.fl (.int .i64 ((tfE f.recs).1)))) rfl (og rfl (op_assign rfl rfl rfl)) ?_
        refine rg_put (d := 8) (v := .d (.fl (.int .i64 ((tfE f.recs).2)))) rfl (og rfl (op_assign rfl rfl rfl)) ?_
        refine rg_done rfl ?_
        refine a_rseq ?_
        refine rg_put (d := 36) (v := .d (.fl (.int .i64 ((tfE f.recs).2)))) rfl (og rfl (op_move rfl rfl rfl)) ?_
        refine rg_put (d := 2) (v := .d (.fl (.int .i64 ((tfE f.recs).2)))) rfl (og rfl (op_assign rfl rfl rfl)) ?_
        refine rg_done rfl ?_
        refine a_ret ?_
        show ∃ ds, ResL _ _ _ ds ∧ RV.of ds = _
        refine ⟨[.fl (.int .i64 ((tfE f.recs).2))], (.cons (.tmp rfl (.d _)) .nil), ?_⟩
        have gR : (rE f.recs != 0) = false := by rw [show rE f.recs = 0 from by rw [fe_end (by omega)] at hc; exact hc]; rfl
        have hu : ckF f = (tfE f.recs).2 := by unfold ckF; simp only [gR, h1, h4, h7, Bool.true_or, Bool.false_or, Bool.or_true, Bool.or_false, Bool.not_true, Bool.not_false, cond_true, cond_false, Bool.true_and, Bool.false_and, Bool.and_true, Bool.and_false] <;> rfl
        rw [hu]; rfl
end Go.Proofs.Ytijjnbabdlllkaa.Wk
