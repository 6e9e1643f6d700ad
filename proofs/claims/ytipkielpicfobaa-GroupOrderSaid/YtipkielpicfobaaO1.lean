/- The orders of detections. No condition. -/
import Derived.Test.YtipkielpicfobaaAvS
import Derived.Test.YtipkielpicfobaaAvN
import Derived.Test.YtipkielpicfobaaAvX
import Derived.Test.YtipkielpicfobaaTy
set_option linter.unusedSimpArgs false
set_option linter.unusedVariables false
namespace Go.Proofs.Ytipkielpicfobaa.Wk
open Go Go.RowKit Go.Proofs.Ytipkielpicfobaa.Av
theorem ix_eq {α : Type} [Inhabited α] {l : List α} {i : Nat} (h : i < l.length) : l[i] = ix l i := by
  have := ix_get h
  rw [List.getElem?_eq_getElem h] at this
  injection this
theorem ix_mem {α : Type} [Inhabited α] {l : List α} {k : Nat} (h : k < l.length) : ix l k ∈ l := by rw [← ix_eq h]; exact List.getElem_mem h
theorem mem_ix {α : Type} [Inhabited α] {l : List α} {x : α} (h : x ∈ l) : ∃ k, k < l.length ∧ ix l k = x := by
  obtain ⟨j, hj, he⟩ := List.mem_iff_getElem.1 h
  exact ⟨j, hj, by rw [← ix_eq hj]; exact he⟩
theorem ne_self_b (a : Int) : (a != a) = false := by simp
theorem sEq_eq {a b : ByteArray} (h : sEq a b = true) : a = b := of_decide_eq_true h
theorem ti24 : TI Try.prog 24 (.slice none 0 0) 1 24 := ti_of (by kernel_rfl)
theorem nm63 : (Try.f63.name == "runtime.NumGoroutine") = false := by kernel_rfl
theorem nm65 : (Try.f65.name == "runtime.NumGoroutine") = false := by kernel_rfl
theorem nm76 : (Try.f76.name == "runtime.NumGoroutine") = false := by kernel_rfl
theorem less_end : ∀ (x y : List UInt8), (∀ q, q < x.length → q < y.length → x.getD q 0 = y.getD q 0) → Op.bytesLess x y = decide (x.length < y.length)
  | [], [], _ => by simp [Op.bytesLess]
  | [], _ :: _, _ => by simp [Op.bytesLess]
  | _ :: _, [], _ => by simp [Op.bytesLess]
  | a :: x, b :: y, h => by
    have e : a = b := by simpa using h 0 (by simp) (by simp)
    subst e
    have ih := less_end x y (fun q h1 h2 => by simpa using h (q + 1) (by simpa using h1) (by simpa using h2))
    simp [Op.bytesLess, ih, UInt8.lt_irrefl]
theorem dlen (s : ByteArray) : s.data.toList.length = s.size := by simp
theorem bef_end {a b : ByteArray} {k : Nat} (h : ¬ (k < a.size ∧ k < b.size)) (hq : ∀ q, q < k → bt a q = bt b q) : sLt a b = decide ((a.size : Int) < (b.size : Int)) := by
  unfold sLt
  rw [ByteArray.toList_eq, ByteArray.toList_eq, less_end a.data.toList b.data.toList (fun q h1 h2 => hq q (by rw [dlen] at h1 h2; omega)), dlen, dlen, decide_eq_decide]
  omega
theorem sLt_self (s : ByteArray) : sLt s s = false := by
  rw [bef_end (a := s) (b := s) (k := s.size) (by omega) (fun _ _ => rfl)]
  simp
theorem sLt_ne {s u : ByteArray} (h : sLt s u = true) : sEq s u = false := by
  cases he : sEq s u with
  | false => rfl
  | true => rw [of_decide_eq_true (show decide (s = u) = true from he), sLt_self] at h; cases h
def ic (a b : Int) : Int := bif decide (a < b) then -1 else bif decide (b < a) then 1 else 0
def sc (s u : ByteArray) : Int := bif sEq s u then 0 else bif sLt s u then -1 else 1
theorem sc_lt {s u : ByteArray} (h : sLt s u = true) : sc s u = -1 := by unfold sc; rw [sLt_ne h, h]; rfl
theorem sc_gt {s u : ByteArray} (h : sLt s u = false) (h2 : (sLt s u || sEq s u) = false) : sc s u = 1 := by
  rw [h, Bool.false_or] at h2
  unfold sc; rw [h2, h]; rfl
theorem sc_eq {s u : ByteArray} (h : sLt s u = false) (h2 : (sLt s u || sEq s u) = true) : sc s u = 0 := by
  rw [h, Bool.false_or] at h2
  unfold sc; rw [h2]; rfl
def fz : List Int → Int
  | [] => 0
  | x :: l => bif x != 0 then x else fz l
theorem fz_at : ∀ {l : List Int} {k : Nat}, k < l.length → (∀ q, q < k → ix l q = 0) → ix l k ≠ 0 → fz l = ix l k
  | [], _, h, _, _ => by simp at h
  | x :: l, 0, _, _, h => by
    have h' : x ≠ 0 := h
    show (bif x != 0 then x else fz l) = x
    rw [show (x != 0) = true by simpa using h']; rfl
  | x :: l, k + 1, h1, h2, h3 => by
    have h' : x = 0 := h2 0 (by omega)
    show (bif x != 0 then x else fz l) = ix l k
    rw [show (x != 0) = false by simpa using h', cond_false]
    exact fz_at (by simpa using h1) (fun q hq => h2 (q + 1) (by omega)) h3
theorem fz_no : ∀ {l : List Int}, (∀ q, q < l.length → ix l q = 0) → fz l = 0
  | [], _ => rfl
  | x :: l, h => by
    have h' : x = 0 := h 0 (by simp)
    show (bif x != 0 then x else fz l) = 0
    rw [show (x != 0) = false by simpa using h', cond_false]
    exact fz_no (fun q hq => h (q + 1) (by simpa using hq))

theorem less_anti : ∀ (x y : List UInt8), Op.bytesLess x y = true → Op.bytesLess y x = false
  | [], [], h => by simp [Op.bytesLess] at h
  | [], _ :: _, _ => by simp [Op.bytesLess]
  | _ :: _, [], h => by simp [Op.bytesLess] at h
  | a :: x, b :: y, h => by
    simp only [Op.bytesLess, Bool.or_eq_true, decide_eq_true_eq, Bool.and_eq_true, beq_iff_eq] at h
    simp only [Op.bytesLess, Bool.or_eq_false_iff, decide_eq_false_iff_not, Bool.and_eq_false_iff]
    rcases h with h | ⟨rfl, h⟩
    · refine ⟨fun h2 => UInt8.lt_irrefl a (UInt8.lt_trans h h2), .inl ?_⟩
      simp only [beq_eq_false_iff_ne]
      intro e; subst e; exact UInt8.lt_irrefl _ h
    · exact ⟨UInt8.lt_irrefl a, .inr (less_anti x y h)⟩
theorem less_tot : ∀ (x y : List UInt8), Op.bytesLess x y = false → x ≠ y → Op.bytesLess y x = true
  | [], [], _, h => absurd rfl h
  | [], _ :: _, h, _ => by simp [Op.bytesLess] at h
  | _ :: _, [], _, _ => by simp [Op.bytesLess]
  | a :: x, b :: y, h, hn => by
    simp only [Op.bytesLess, Bool.or_eq_false_iff, decide_eq_false_iff_not, Bool.and_eq_false_iff] at h
    simp only [Op.bytesLess, Bool.or_eq_true, decide_eq_true_eq, Bool.and_eq_true, beq_iff_eq]
    by_cases e : a = b
    · subst e
      refine .inr ⟨rfl, less_tot x y ?_ (fun e => hn (by rw [e]))⟩
      rcases h.2 with h2 | h2
      · simp at h2
      · exact h2
    · left
      rcases UInt8.lt_or_lt_of_ne e with h2 | h2
      · exact absurd h2 h.1
      · exact h2
theorem less_tr : ∀ (x y z : List UInt8), Op.bytesLess x y = true → Op.bytesLess y z = true → Op.bytesLess x z = true
  | _, [], _, h, _ => by cases ‹List UInt8› <;> simp [Op.bytesLess] at h
  | _, _ :: _, [], _, h => by simp [Op.bytesLess] at h
  | [], _ :: _, _ :: _, _, _ => by simp [Op.bytesLess]
  | a :: x, b :: y, c :: z, h1, h2 => by
    simp only [Op.bytesLess, Bool.or_eq_true, decide_eq_true_eq, Bool.and_eq_true, beq_iff_eq] at h1 h2 ⊢
    rcases h1 with h1 | ⟨rfl, h1⟩
    · rcases h2 with h2 | ⟨rfl, h2⟩
      · exact .inl (UInt8.lt_trans h1 h2)
      · exact .inl h1
    · rcases h2 with h2 | ⟨rfl, h2⟩
      · exact .inl h2
      · exact .inr ⟨rfl, less_tr x y z h1 h2⟩
theorem sEq_t {s u : ByteArray} (h : sEq s u = true) : s = u := of_decide_eq_true h
theorem sEq_f {s u : ByteArray} (h : sEq s u = false) : s.toList ≠ u.toList := fun e => by
  have := toList_sEq s u
  rw [e] at this
  rw [h] at this; simp at this
theorem sLt_anti {s u : ByteArray} (h : sLt s u = true) : sLt u s = false := less_anti _ _ h
theorem sLt_tot {s u : ByteArray} (h : sLt s u = false) (h2 : sEq s u = false) : sLt u s = true := less_tot _ _ h (sEq_f h2)
theorem sc_cases (s u : ByteArray) : (sc s u = 0 ∧ s = u) ∨ (sc s u = -1 ∧ sLt s u = true ∧ s ≠ u) ∨ (sc s u = 1 ∧ sLt u s = true ∧ s ≠ u) := by
  unfold sc
  cases h : sEq s u with
  | true => exact .inl ⟨rfl, sEq_t h⟩
  | false =>
    have hn : s ≠ u := fun e => by rw [e] at h; unfold sEq at h; simp at h
    cases h2 : sLt s u with
    | true => exact .inr (.inl ⟨rfl, rfl, hn⟩)
    | false => exact .inr (.inr ⟨rfl, sLt_tot h2 h, hn⟩)
def Neg (x y : Int) : Prop := x = -y
def Tq (x y z : Int) : Prop := x ≤ 0 → y ≤ 0 → z ≤ 0 ∧ (z < 0 ↔ x < 0 ∨ y < 0)
theorem sc_neg (s u : ByteArray) : sc s u = -(sc u s) := by
  rcases sc_cases s u with ⟨h, e⟩ | ⟨h, l, n⟩ | ⟨h, l, n⟩ <;> rcases sc_cases u s with ⟨h', e'⟩ | ⟨h', l', n'⟩ | ⟨h', l', n'⟩ <;> rw [h, h'] <;>
    first
      | rfl
      | exact absurd e'.symm n
      | exact absurd e.symm n'
      | (have := sLt_anti l; rw [l'] at this; cases this)
theorem sc_tq (s u v : ByteArray) : Tq (sc s u) (sc u v) (sc s v) := by
  intro h1 h2
  rcases sc_cases s u with ⟨h, e⟩ | ⟨h, l, n⟩ | ⟨h, l, n⟩
  · rw [e] at h ⊢
    rw [h]; omega
  · rcases sc_cases u v with ⟨h', e'⟩ | ⟨h', l', n'⟩ | ⟨h', l', n'⟩
    · subst e'
      rw [h', h]; omega
    · have hl : sLt s v = true := less_tr _ _ _ l l'
      rw [sc_lt hl, h, h']; omega
    · omega
  · omega
theorem ic_neg (a b : Int) : ic a b = -(ic b a) := by
  unfold ic
  cases h : decide (a < b) <;> cases h2 : decide (b < a) <;> simp at h h2 ⊢ <;> omega
theorem ic_val (a b : Int) : (a < b ∧ ic a b = -1) ∨ (a = b ∧ ic a b = 0) ∨ (b < a ∧ ic a b = 1) := by
  unfold ic
  cases h : decide (a < b) <;> cases h2 : decide (b < a) <;> simp at h h2 ⊢ <;> omega
theorem ic_tq (a b c : Int) : Tq (ic a b) (ic b c) (ic a c) := by
  intro h1 h2
  have := ic_val a b
  have := ic_val b c
  have := ic_val a c
  omega
theorem fz_neg : ∀ {l m : List Int}, l = m.map (fun x => -x) → fz l = -(fz m)
  | [], [], _ => rfl
  | [], _ :: _, h => by cases h
  | _ :: _, [], h => by cases h
  | x :: l, y :: m, h => by
    simp only [List.map_cons, List.cons.injEq] at h
    have ih := fz_neg h.2
    have hx := h.1
    simp only [fz]
    cases h1 : (x != 0) <;> cases h2 : (y != 0) <;> simp at h1 h2 ⊢ <;> omega
inductive T3 : List Int → List Int → List Int → Prop
  | nil : T3 [] [] []
  | cons {x y z : Int} {l m n : List Int} (h : Tq x y z) (hs : T3 l m n) : T3 (x :: l) (y :: m) (z :: n)
theorem fz_tq {l m n : List Int} (h : T3 l m n) : Tq (fz l) (fz m) (fz n) := by
  induction h with
  | nil => intro _ _; simp [fz]
  | @cons x y z l m n h hs ih =>
    unfold Tq at *
    simp only [fz]
    cases h1 : (x != 0) <;> cases h2 : (y != 0) <;> cases h3 : (z != 0) <;> simp at h1 h2 h3 ⊢ <;> omega
theorem fz_zero : ∀ {l : List Int}, fz l = 0 ↔ ∀ x ∈ l, x = 0
  | [] => by simp [fz]
  | x :: l => by
    have ih := fz_zero (l := l)
    simp only [fz, List.mem_cons, forall_eq_or_imp]
    cases h1 : (x != 0) <;> simp at h1 ⊢
    · rw [ih]; simp [h1]
    · intro h; exact absurd h h1
theorem swo_of {α : Type} {c : α → α → Int} (hn : ∀ x y, c x y = -(c y x)) (ht : ∀ x y z, Tq (c x y) (c y z) (c x z)) : Go.Sort.SWO (ltOf c) where
  irrefl x := by have := hn x x; unfold ltOf; exact decide_eq_false (by omega)
  trans x y z h1 h2 := by
    unfold ltOf at *
    simp only [decide_eq_true_eq] at *
    have := ht x y z (by omega) (by omega)
    omega
  ntrans x y z h1 h2 := by
    unfold ltOf at *
    simp only [decide_eq_false_iff_not] at *
    have h3 := hn x y
    have h4 := hn y z
    have h5 := hn x z
    have := ht z y x (by omega) (by omega)
    omega
theorem le_of_sorted {α : Type} {c : α → α → Int} (hn : ∀ x y, c x y = -(c y x)) {x y : α} (h : ltOf c y x = false) : c x y ≤ 0 := by
  unfold ltOf at h
  simp only [decide_eq_false_iff_not] at h
  have := hn x y
  omega

theorem perm_uniq {α : Type} {r : α → α → Prop} (ha : ∀ x y, r x y → r y x → x = y) : ∀ {l m : List α}, l.Perm m → l.Pairwise r → m.Pairwise r → l = m
  | [], m, h, _, _ => (List.Perm.nil_eq h)
  | x :: l, [], h, _, _ => by have := h.length_eq; simp at this
  | x :: l, y :: m, h, h1, h2 => by
    rw [List.pairwise_cons] at h1 h2
    have e : x = y := by
      have hx : x ∈ y :: m := h.subset (by simp)
      have hy : y ∈ x :: l := h.symm.subset (by simp)
      rcases List.mem_cons.1 hx with e | hx
      · exact e
      · rcases List.mem_cons.1 hy with e | hy
        · exact e.symm
        · exact ha _ _ (h1.1 y hy) (h2.1 x hx)
    subst e
    rw [perm_uniq ha (List.Perm.cons_inv h) h1.2 h2.2]

def cdd (a b : Den) : Int := fz [sc a.dev b.dev, ic a.seq b.seq, ic a.time b.time, sc a.tag b.tag, sc a.plate b.plate, ic a.axl b.axl, ic a.score b.score]
def cs (a b : Sen) : Int := fz [ic a.time b.time, sc a.point b.point, ic a.kind b.kind, ic a.lane b.lane, cdd a.d b.d]
theorem cs_first {a b : Sen} (h : (ic a.time b.time != 0) = true) : cs a b = ic a.time b.time := by unfold cs fz; rw [h]; rfl
theorem cs_rest {a b : Sen} (h : (ic a.time b.time != 0) = false) : cs a b = fz [sc a.point b.point, ic a.kind b.kind, ic a.lane b.lane, cdd a.d b.d] := by unfold cs; rw [fz, h]; rfl
def cq (a b : Sen) : Int := fz [sc a.point b.point, cs a b]
theorem cdd_neg (a b : Den) : cdd a b = -(cdd b a) := fz_neg (by
  simp only [List.map_cons, List.map_nil]
  rw [sc_neg a.dev, ic_neg a.seq, ic_neg a.time, sc_neg a.tag, sc_neg a.plate, ic_neg a.axl, ic_neg a.score])
theorem cs_neg (a b : Sen) : cs a b = -(cs b a) := fz_neg (by
  simp only [List.map_cons, List.map_nil]
  rw [ic_neg a.time, sc_neg a.point, ic_neg a.kind, ic_neg a.lane, cdd_neg a.d])
theorem cq_neg (a b : Sen) : cq a b = -(cq b a) := fz_neg (by
  simp only [List.map_cons, List.map_nil]
  rw [sc_neg a.point, cs_neg a])
theorem cdd_tq (a b c : Den) : Tq (cdd a b) (cdd b c) (cdd a c) := fz_tq (.cons (sc_tq _ _ _) (.cons (ic_tq _ _ _) (.cons (ic_tq _ _ _) (.cons (sc_tq _ _ _) (.cons (sc_tq _ _ _) (.cons (ic_tq _ _ _) (.cons (ic_tq _ _ _) .nil)))))))
theorem cs_tq (a b c : Sen) : Tq (cs a b) (cs b c) (cs a c) := fz_tq (.cons (ic_tq _ _ _) (.cons (sc_tq _ _ _) (.cons (ic_tq _ _ _) (.cons (ic_tq _ _ _) (.cons (cdd_tq _ _ _) .nil)))))
theorem cq_tq (a b c : Sen) : Tq (cq a b) (cq b c) (cq a c) := fz_tq (.cons (sc_tq _ _ _) (.cons (cs_tq _ _ _) .nil))
theorem sc_e {s u : ByteArray} (h : sc s u = 0) : s = u := by rcases sc_cases s u with q | q | q <;> first | exact q.2 | omega
theorem ic_e {x y : Int} (h : ic x y = 0) : x = y := by have := ic_val x y; omega
theorem cdd_e {a b : Den} (h : cdd a b = 0) : a = b := by
  have hz := fz_zero.1 h
  have e1 := sc_e (hz (sc a.dev b.dev) (by simp))
  have e2 := ic_e (hz (ic a.seq b.seq) (by simp))
  have e3 := ic_e (hz (ic a.time b.time) (by simp))
  have e4 := sc_e (hz (sc a.tag b.tag) (by simp))
  have e5 := sc_e (hz (sc a.plate b.plate) (by simp))
  have e6 := ic_e (hz (ic a.axl b.axl) (by simp))
  have e7 := ic_e (hz (ic a.score b.score) (by simp))
  cases a; cases b; simp at e1 e2 e3 e4 e5 e6 e7; subst e1 e2 e3 e4 e5 e6 e7; rfl
theorem cs_e {a b : Sen} (h : cs a b = 0) : a = b := by
  have hz := fz_zero.1 h
  have e1 := ic_e (hz (ic a.time b.time) (by simp))
  have e2 := sc_e (hz (sc a.point b.point) (by simp))
  have e3 := ic_e (hz (ic a.kind b.kind) (by simp))
  have e4 := ic_e (hz (ic a.lane b.lane) (by simp))
  have e5 := cdd_e (hz (cdd a.d b.d) (by simp))
  cases a; cases b; simp at e1 e2 e3 e4 e5; subst e1 e2 e3 e4 e5; rfl
theorem cq_self (a : Sen) : cq a a = 0 := by have := cq_neg a a; omega
theorem cq_e {a b : Sen} (h : cq a b = 0) : a = b := cs_e (fz_zero.1 h (cs a b) (by simp))
theorem cq_le {a b : Sen} (h : cq a b ≤ 0) : sc a.point b.point ≤ 0 ∧ (a.point = b.point → a.time ≤ b.time) := by
  unfold cq at h
  by_cases h0 : sc a.point b.point = 0
  · refine ⟨by omega, fun _ => ?_⟩
    have : cs a b ≤ 0 := by
      rw [fz, h0] at h
      have h1 : fz [cs a b] ≤ 0 := h
      rw [fz] at h1
      cases hb : (cs a b != 0) with
      | true => rw [hb] at h1; exact h1
      | false => have := (f_bne hb); omega
    unfold cs at this
    by_cases h2 : ic a.time b.time = 0
    · exact Int.le_of_eq (ic_e h2)
    · rw [fz, show (ic a.time b.time != 0) = true from by simpa using h2] at this
      have h3 : ic a.time b.time ≤ 0 := this
      have := ic_val a.time b.time; omega
  · rw [fz, show (sc a.point b.point != 0) = true from by simpa using h0] at h
    have h3 : sc a.point b.point ≤ 0 := h
    exact ⟨h3, fun e => absurd (by rw [e]; have := sc_neg b.point b.point; omega) h0⟩

set_option maxHeartbeats 4000000 in
set_option maxRecDepth 100000 in
theorem nanI (x : Int) : Ctr Try.prog 76 [.fl (.int .i64 x)] (.d (.fl (.bool (x != x)))) := by
  refine ctr (n := 6) (rs := #[.tmp 2]) (L := [(0, .d (.fl (.int .i64 x)))]) Try.func76 rfl rfl rfl rfl rfl (fun w0 U0 => ?_)
  refine a_rseq ?_
  refine rg_put (d := 2) (v := .d (.fl (.bool false))) rfl (og rfl (op_assign rfl rfl rfl)) ?_
  refine rg_done rfl ?_
  refine a_rseq ?_
  refine rg_put (d := 3) (v := .d (.fl (.int .i64 x))) rfl (og rfl (op_move rfl rfl rfl)) ?_
  refine rg_put (d := 4) (v := .d (.fl (.int .i64 x))) rfl (og rfl (op_move rfl rfl rfl)) ?_
  refine rg_put (d := 5) (v := .d (.fl (.bool (x != x)))) rfl (og rfl (op_bin rfl rfl rfl (b_neq _ _ _ _) rfl)) ?_
  refine rg_put (d := 2) (v := .d (.fl (.bool (x != x)))) rfl (og rfl (op_assign rfl rfl rfl)) ?_
  refine rg_done rfl ?_
  refine a_ret ?_
  show ∃ ds, ResL _ _ _ ds ∧ RV.of ds = _
  refine ⟨[.fl (.bool (x != x))], (.cons (.tmp rfl (.d _)) .nil), ?_⟩
  rfl
set_option maxHeartbeats 4000000 in
set_option maxRecDepth 100000 in
theorem nanS (s : ByteArray) : Ctr Try.prog 65 [.fl (.string s)] (.d (.fl (.bool (!(sEq s s))))) := by
  refine ctr (n := 6) (rs := #[.tmp 2]) (L := [(0, .d (.fl (.string s)))]) Try.func65 rfl rfl rfl rfl rfl (fun w0 U0 => ?_)
  refine a_rseq ?_
  refine rg_put (d := 2) (v := .d (.fl (.bool false))) rfl (og rfl (op_assign rfl rfl rfl)) ?_
  refine rg_done rfl ?_
  refine a_rseq ?_
  refine rg_put (d := 3) (v := .d (.fl (.string s))) rfl (og rfl (op_move rfl rfl rfl)) ?_
  refine rg_put (d := 4) (v := .d (.fl (.string s))) rfl (og rfl (op_move rfl rfl rfl)) ?_
  refine rg_put (d := 5) (v := .d (.fl (.bool ((!(sEq s s)))))) rfl (og rfl (op_bin rfl rfl rfl (b_sne _ _ _) rfl)) ?_
  refine rg_put (d := 2) (v := .d (.fl (.bool ((!(sEq s s)))))) rfl (og rfl (op_assign rfl rfl rfl)) ?_
  refine rg_done rfl ?_
  refine a_ret ?_
  show ∃ ds, ResL _ _ _ ds ∧ RV.of ds = _
  refine ⟨[.fl (.bool ((!(sEq s s))))], (.cons (.tmp rfl (.d _)) .nil), ?_⟩
  rfl
set_option maxHeartbeats 4000000 in
set_option maxRecDepth 100000 in
theorem icC (x y : Int) : Ctr Try.prog 55 [.fl (.int .i64 x), .fl (.int .i64 y)] (.d (.fl (.int .i64 (ic x y)))) := by
  refine ctr (n := 20) (rs := #[.tmp 4]) (L := [(0, .d (.fl (.int .i64 x))), (1, .d (.fl (.int .i64 y)))]) Try.func55 rfl rfl rfl rfl rfl (fun w0 U0 => ?_)
  refine a_rseq ?_
  refine rg_put (d := 4) (v := .d (.fl (.int .i64 0))) rfl (og rfl (op_assign rfl rfl rfl)) ?_
  refine rg_done rfl ?_
  refine a_rseq ?_
  refine rg_put (d := 7) (v := .d (.fl (.int .i64 x))) rfl (og rfl (op_move rfl rfl rfl)) ?_
  refine rg_put (d := 8) (v := .d (.fl (.bool (x != x)))) rfl (og rfl (op_call rfl Try.func76 nm76 rfl (.cons rfl (.d _) .nil) (nanI x) rfl)) ?_
  refine rg_put (d := 5) (v := .d (.fl (.bool (x != x)))) rfl (og rfl (op_assign rfl rfl rfl)) ?_
  refine rg_done rfl ?_
  refine a_rseq ?_
  refine rg_put (d := 9) (v := .d (.fl (.int .i64 y))) rfl (og rfl (op_move rfl rfl rfl)) ?_
  refine rg_put (d := 10) (v := .d (.fl (.bool (y != y)))) rfl (og rfl (op_call rfl Try.func76 nm76 rfl (.cons rfl (.d _) .nil) (nanI y) rfl)) ?_
  refine rg_put (d := 6) (v := .d (.fl (.bool (y != y)))) rfl (og rfl (op_assign rfl rfl rfl)) ?_
  refine rg_done rfl ?_
  refine a_seq ?_
  refine a_rseq ?_
  refine rg_put (d := 11) (v := .d (.fl (.bool (x != x)))) rfl (og rfl (op_move rfl rfl rfl)) ?_
  refine rg_done rfl ?_
  refine a_condF rfl (ne_self_b _) ?_
  refine a_skip ?_
  show A _ _ _ _ _ _ _
  refine a_seq ?_
  refine a_rseq ?_
  refine rg_put (d := 13) (v := .d (.fl (.bool (y != y)))) rfl (og rfl (op_move rfl rfl rfl)) ?_
  refine rg_done rfl ?_
  refine a_condF rfl (ne_self_b _) ?_
  refine a_skip ?_
  show A _ _ _ _ _ _ _
  refine a_seq ?_
  refine a_rseq ?_
  refine rg_put (d := 14) (v := .d (.fl (.int .i64 x))) rfl (og rfl (op_move rfl rfl rfl)) ?_
  refine rg_put (d := 15) (v := .d (.fl (.int .i64 y))) rfl (og rfl (op_move rfl rfl rfl)) ?_
  refine rg_put (d := 16) (v := .d (.fl (.bool ((decide (x < y)))))) rfl (og rfl (op_bin rfl rfl rfl (b_lss _ _ _ _) rfl)) ?_
  refine rg_done rfl ?_
  refine a_cond rfl (fun h1 => ?_) (fun h1 => ?_)
  · skip
    have h2 := t_dec h1
    refine a_rseq ?_
    refine rg_put (d := 4) (v := .d (.fl (.int .i64 (-1)))) rfl (og rfl (op_assign rfl rfl rfl)) ?_
    refine rg_done rfl ?_
    refine a_ret ?_
    show ∃ ds, ResL _ _ _ ds ∧ RV.of ds = _
    refine ⟨[.fl (.int .i64 (-1))], (.cons (.tmp rfl (.d _)) .nil), ?_⟩
    first
      | (have hu : ic x y = (-1) := by
          unfold ic; simp only [h1, Bool.true_or, Bool.false_or, Bool.or_true, Bool.or_false, Bool.not_true, Bool.not_false, cond_true, cond_false, Bool.true_and, Bool.false_and, Bool.and_true, Bool.and_false] <;> rfl
         rw [hu]; rfl)
      | (exfalso; omega)
  · skip
    have h3 := f_dec h1
    refine a_skip ?_
    show A _ _ _ _ _ _ _
    refine a_seq ?_
    refine a_rseq ?_
    refine rg_put (d := 17) (v := .d (.fl (.int .i64 x))) rfl (og rfl (op_move rfl rfl rfl)) ?_
    refine rg_put (d := 18) (v := .d (.fl (.int .i64 y))) rfl (og rfl (op_move rfl rfl rfl)) ?_
    refine rg_put (d := 19) (v := .d (.fl (.bool ((decide (y < x)))))) rfl (og rfl (op_bin rfl rfl rfl (b_gtr _ _ _ _) rfl)) ?_
    refine rg_done rfl ?_
    refine a_cond rfl (fun h4 => ?_) (fun h4 => ?_)
    · skip
      have h5 := t_dec h4
      refine a_rseq ?_
      refine rg_put (d := 4) (v := .d (.fl (.int .i64 1))) rfl (og rfl (op_assign rfl rfl rfl)) ?_
      refine rg_done rfl ?_
      refine a_ret ?_
      show ∃ ds, ResL _ _ _ ds ∧ RV.of ds = _
      refine ⟨[.fl (.int .i64 1)], (.cons (.tmp rfl (.d _)) .nil), ?_⟩
      first
        | (have hu : ic x y = 1 := by
            unfold ic; simp only [h1, h4, Bool.true_or, Bool.false_or, Bool.or_true, Bool.or_false, Bool.not_true, Bool.not_false, cond_true, cond_false, Bool.true_and, Bool.false_and, Bool.and_true, Bool.and_false] <;> rfl
           rw [hu]; rfl)
        | (exfalso; omega)
    · skip
      have h6 := f_dec h4
      refine a_skip ?_
      show A _ _ _ _ _ _ _
      refine a_rseq ?_
      refine rg_put (d := 4) (v := .d (.fl (.int .i64 0))) rfl (og rfl (op_assign rfl rfl rfl)) ?_
      refine rg_done rfl ?_
      refine a_ret ?_
      show ∃ ds, ResL _ _ _ ds ∧ RV.of ds = _
      refine ⟨[.fl (.int .i64 0)], (.cons (.tmp rfl (.d _)) .nil), ?_⟩
      first
        | (have hu : ic x y = 0 := by
            unfold ic; simp only [h1, h4, Bool.true_or, Bool.false_or, Bool.or_true, Bool.or_false, Bool.not_true, Bool.not_false, cond_true, cond_false, Bool.true_and, Bool.false_and, Bool.and_true, Bool.and_false] <;> rfl
           rw [hu]; rfl)
        | (exfalso; omega)
set_option maxHeartbeats 4000000 in
set_option maxRecDepth 100000 in
theorem scC (s u : ByteArray) : Ctr Try.prog 51 [.fl (.string s), .fl (.string u)] (.d (.fl (.int .i64 (sc s u)))) := by
  refine ctr (n := 20) (rs := #[.tmp 4]) (L := [(0, .d (.fl (.string s))), (1, .d (.fl (.string u)))]) Try.func51 rfl rfl rfl rfl rfl (fun w0 U0 => ?_)
  refine a_rseq ?_
  refine rg_put (d := 4) (v := .d (.fl (.int .i64 0))) rfl (og rfl (op_assign rfl rfl rfl)) ?_
  refine rg_done rfl ?_
  refine a_rseq ?_
  refine rg_put (d := 7) (v := .d (.fl (.string s))) rfl (og rfl (op_move rfl rfl rfl)) ?_
  refine rg_put (d := 8) (v := .d (.fl (.bool ((!(sEq s s)))))) rfl (og rfl (op_call rfl Try.func65 nm65 rfl (.cons rfl (.d _) .nil) (nanS s) rfl)) ?_
  refine rg_put (d := 5) (v := .d (.fl (.bool ((!(sEq s s)))))) rfl (og rfl (op_assign rfl rfl rfl)) ?_
  refine rg_done rfl ?_
  refine a_rseq ?_
  refine rg_put (d := 9) (v := .d (.fl (.string u))) rfl (og rfl (op_move rfl rfl rfl)) ?_
  refine rg_put (d := 10) (v := .d (.fl (.bool ((!(sEq u u)))))) rfl (og rfl (op_call rfl Try.func65 nm65 rfl (.cons rfl (.d _) .nil) (nanS u) rfl)) ?_
  refine rg_put (d := 6) (v := .d (.fl (.bool ((!(sEq u u)))))) rfl (og rfl (op_assign rfl rfl rfl)) ?_
  refine rg_done rfl ?_
  refine a_seq ?_
  refine a_rseq ?_
  refine rg_put (d := 11) (v := .d (.fl (.bool ((!(sEq s s)))))) rfl (og rfl (op_move rfl rfl rfl)) ?_
  refine rg_done rfl ?_
  refine a_condF rfl (not_f (eq_self_s _)) ?_
  refine a_skip ?_
  show A _ _ _ _ _ _ _
  refine a_seq ?_
  refine a_rseq ?_
  refine rg_put (d := 13) (v := .d (.fl (.bool ((!(sEq u u)))))) rfl (og rfl (op_move rfl rfl rfl)) ?_
  refine rg_done rfl ?_
  refine a_condF rfl (not_f (eq_self_s _)) ?_
  refine a_skip ?_
  show A _ _ _ _ _ _ _
  refine a_seq ?_
  refine a_rseq ?_
  refine rg_put (d := 14) (v := .d (.fl (.string s))) rfl (og rfl (op_move rfl rfl rfl)) ?_
  refine rg_put (d := 15) (v := .d (.fl (.string u))) rfl (og rfl (op_move rfl rfl rfl)) ?_
  refine rg_put (d := 16) (v := .d (.fl (.bool (sLt s u)))) rfl (og rfl (op_bin rfl rfl rfl (b_slt _ _ _) rfl)) ?_
  refine rg_done rfl ?_
  refine a_cond rfl (fun h1 => ?_) (fun h1 => ?_)
  · skip
    refine a_rseq ?_
    refine rg_put (d := 4) (v := .d (.fl (.int .i64 (-1)))) rfl (og rfl (op_assign rfl rfl rfl)) ?_
    refine rg_done rfl ?_
    refine a_ret ?_
    show ∃ ds, ResL _ _ _ ds ∧ RV.of ds = _
    refine ⟨[.fl (.int .i64 (-1))], (.cons (.tmp rfl (.d _)) .nil), ?_⟩
    rw [sc_lt h1]; rfl
  · skip
    refine a_skip ?_
    show A _ _ _ _ _ _ _
    refine a_seq ?_
    refine a_rseq ?_
    refine rg_put (d := 17) (v := .d (.fl (.string s))) rfl (og rfl (op_move rfl rfl rfl)) ?_
    refine rg_put (d := 18) (v := .d (.fl (.string u))) rfl (og rfl (op_move rfl rfl rfl)) ?_
    refine rg_put (d := 19) (v := .d (.fl (.bool ((!(sLt s u || sEq s u)))))) rfl (og rfl (op_bin rfl rfl rfl (b_sgt _ _ _) rfl)) ?_
    refine rg_done rfl ?_
    refine a_cond rfl (fun h2 => ?_) (fun h2 => ?_)
    · skip
      have h3 := t_not h2
      refine a_rseq ?_
      refine rg_put (d := 4) (v := .d (.fl (.int .i64 1))) rfl (og rfl (op_assign rfl rfl rfl)) ?_
      refine rg_done rfl ?_
      refine a_ret ?_
      show ∃ ds, ResL _ _ _ ds ∧ RV.of ds = _
      refine ⟨[.fl (.int .i64 1)], (.cons (.tmp rfl (.d _)) .nil), ?_⟩
      rw [sc_gt h1 h3]; rfl
    · skip
      have h4 := f_not h2
      refine a_skip ?_
      show A _ _ _ _ _ _ _
      refine a_rseq ?_
      refine rg_put (d := 4) (v := .d (.fl (.int .i64 0))) rfl (og rfl (op_assign rfl rfl rfl)) ?_
      refine rg_done rfl ?_
      refine a_ret ?_
      show ∃ ds, ResL _ _ _ ds ∧ RV.of ds = _
      refine ⟨[.fl (.int .i64 0)], (.cons (.tmp rfl (.d _)) .nil), ?_⟩
      rw [sc_eq h1 h4]; rfl
set_option maxHeartbeats 4000000 in
set_option maxRecDepth 100000 in
theorem orC (l : List Int) (hl : l.length ≤ 1000) : Ctr Try.prog 50 [.sl 1 (List.map (rI .i64) l)] (.d (.fl (.int .i64 (fz l)))) := by
  refine ctr (n := 18) (rs := #[.tmp 2]) (L := [(0, .d (.sl 1 (List.map (rI .i64) l)))]) Try.func50 rfl rfl rfl rfl rfl (fun w0 U0 => ?_)
  refine a_rseq ?_
  refine rg_put (d := 2) (v := .d (.fl (.int .i64 0))) rfl (og rfl (op_assign rfl rfl rfl)) ?_
  refine rg_done rfl ?_
  refine a_rseq ?_
  refine rg_put (d := 3) (v := .d (.fl (.int .i64 0))) rfl (og rfl (op_assign rfl rfl rfl)) ?_
  refine rg_done rfl ?_
  refine a_seq ?_
  refine a_rseq ?_
  refine rg_put (d := 6) (v := .d (.sl 1 (List.map (rI .i64) l))) rfl (og rfl (op_move rfl rfl rfl)) ?_
  refine rg_put (d := 7) (v := .d (.fl (.int .i64 (l.length : Int)))) rfl (og rfl (s_len rfl Try.underlying32 rfl rfl)) ?_
  refine rg_put (d := 8) (v := .d (.fl (.int .i64 0))) rfl (og rfl (op_move rfl rfl rfl)) ?_
  refine rg_done rfl ?_
  refine a_block ?_
  refine a_loop (ι := Nat) (fun k => SS [(0, .d (.sl 1 (List.map (rI .i64) l))), (3, .d (.fl (.int .i64 0))), (6, .d (.sl 1 (List.map (rI .i64) l))), (7, .d (.fl (.int .i64 (l.length : Int)))), (8, .d (.fl (.int .i64 (k : Int))))] []) (fun k => k ≤ l.length ∧ ∀ q, q < k → ix l q = 0) (fun k => l.length - k) 0 (⟨by omega, fun q h => by omega⟩) (imp_forget rfl ⟨rfl, rfl, rfl, rfl, (by first | rfl | exact ci (by omega) | exact ci (by simp) | exact cd (by simp) | simp), trivial⟩ trivial) (fun k hok => ?_)
  obtain ⟨hk, hq⟩ := hok
  refine a_rseq ?_
  refine rg_put (d := 9) (v := .d (.fl (.bool ((decide ((k : Int) < (l.length : Int))))))) rfl (og rfl (op_bin rfl rfl rfl (b_lss _ _ _ _) rfl)) ?_
  refine rg_done rfl ?_
  refine a_seq ?_
  refine a_cond rfl (fun h1 => ?_) (fun h1 => ?_)
  · skip
    have h2 := t_dec h1
    refine a_skip ?_
    show A _ _ _ _ _ _ _
    refine a_seq ?_
    refine a_block ?_
    refine a_rseq ?_
    refine rg_put (d := 10) (v := .el ((rI .i64 (ix l k)))) rfl (og rfl (s_index rfl Try.underlying32 ti3 rfl rfl (by omega) (row_at (by omega)) rfl)) ?_
    refine rg_put (d := 11) (v := .d (.fl (.int .i64 (ix l k)))) rfl (og rfl (op_load_el rfl Try.underlying3 rfl rfl rfl rfl)) ?_
    refine rg_put (d := 5) (v := .d (.fl (.int .i64 (ix l k)))) rfl (og rfl (op_assign rfl rfl rfl)) ?_
    refine rg_done rfl ?_
    refine a_rseq ?_
    refine rg_put (d := 12) (v := .d (.fl (.int .i64 (ix l k)))) rfl (og rfl (op_move rfl rfl rfl)) ?_
    refine rg_put (d := 13) (v := .d (.fl (.int .i64 0))) rfl (og rfl (op_move rfl rfl rfl)) ?_
    refine rg_put (d := 14) (v := .d (.fl (.bool (((ix l k) != 0))))) rfl (og rfl (op_bin rfl rfl rfl (b_neq _ _ _ _) rfl)) ?_
    refine rg_done rfl ?_
    refine a_cond rfl (fun h3 => ?_) (fun h3 => ?_)
    · skip
      have h4 := t_bne h3
      refine a_rseq ?_
      refine rg_put (d := 15) (v := .d (.fl (.int .i64 (ix l k)))) rfl (og rfl (op_move rfl rfl rfl)) ?_
      refine rg_put (d := 2) (v := .d (.fl (.int .i64 (ix l k)))) rfl (og rfl (op_assign rfl rfl rfl)) ?_
      refine rg_done rfl ?_
      refine a_ret ?_
      show ∃ ds, ResL _ _ _ ds ∧ RV.of ds = _
      refine ⟨[.fl (.int .i64 (ix l k))], (.cons (.tmp rfl (.d _)) .nil), ?_⟩
      rw [fz_at (by omega) hq (t_bne h3)]; rfl
    · skip
      have h5 := f_bne h3
      refine a_skip ?_
      show A _ _ _ _ _ _ _
      refine a_region ?_
      refine rg_put (d := 16) (v := .d (.fl (.int .i64 (((k : Int) + 1))))) rfl (og rfl (op_bin rfl rfl rfl (fun x y w => b_add64 _ _ _ x y w (by omega)) rfl)) ?_
      refine rg_put (d := 8) (v := .d (.fl (.int .i64 (((k : Int) + 1))))) rfl (og rfl (op_move rfl rfl rfl)) ?_
      refine rg_done rfl ?_
      have hx : ix l k = 0 := f_bne h3
      show ∃ i, _ ∧ _ ∧ Imp _ _ _ _ _
      refine ⟨k + 1, ⟨by omega, fun q h => (Nat.lt_succ_iff_lt_or_eq.1 h).elim (hq q) (fun e => by rw [e]; exact hx)⟩, by omega, imp_forget rfl ⟨rfl, rfl, rfl, rfl, (by first | rfl | exact ci (by omega) | exact ci (by simp) | exact cd (by simp) | simp), trivial⟩ trivial⟩
  · skip
    have h6 := f_dec h1
    refine a_exit ?_
    show A _ _ _ _ _ _ _
    refine a_rseq ?_
    refine rg_put (d := 17) (v := .d (.fl (.int .i64 0))) rfl (og rfl (op_move rfl rfl rfl)) ?_
    refine rg_put (d := 2) (v := .d (.fl (.int .i64 0))) rfl (og rfl (op_assign rfl rfl rfl)) ?_
    refine rg_done rfl ?_
    refine a_ret ?_
    show ∃ ds, ResL _ _ _ ds ∧ RV.of ds = _
    refine ⟨[.fl (.int .i64 0)], (.cons (.tmp rfl (.d _)) .nil), ?_⟩
    rw [fz_no (fun q h => hq q (by omega))]; rfl
set_option maxHeartbeats 4000000 in
set_option maxRecDepth 100000 in
theorem cddC (a b : Den) : Ctr Try.prog 56 [.ag (eDen a), .ag (eDen b)] (.d (.fl (.int .i64 (cdd a b)))) := by
  refine ctr (n := 42) (rs := #[.tmp 4]) (L := [(0, .d (.ag (eDen a))), (1, .d (.ag (eDen b)))]) Try.func56 rfl rfl rfl rfl rfl (fun w0 U0 => ?_)
  refine a_rseq ?_
  refine rg_nam (d := 2) (v := .pt 101 0) (m := 101) (nw := [(101, .bx 29 (eDen a))]) rfl (og rfl (of_eff (op_box 101 rfl rfl rfl rfl) rfl)) rfl ?_
  refine rg_nam (d := 3) (v := .pt 102 0) (m := 102) (nw := [(102, .bx 29 (eDen b))]) rfl (og rfl (of_eff (op_box 102 rfl rfl rfl rfl) rfl)) rfl ?_
  refine rg_put (d := 4) (v := .d (.fl (.int .i64 0))) rfl (og rfl (op_assign rfl rfl rfl)) ?_
  refine rg_done rfl ?_
  refine a_dseq (by kernel_rfl) ?_
  refine dr_put (d := 5) (v := .pt 101 0) rfl (og rfl (of_eff (s_field_pt rfl Try.underlying29 rfl ti9 rfl rfl rfl) rfl)) ?_
  refine dr_put (d := 6) (v := .d (.fl (.string a.dev))) rfl (og rfl (op_load_pt rfl Try.underlying9 rfl rfl rfl rfl rfl)) ?_
  refine dr_put (d := 7) (v := .pt 102 0) rfl (og rfl (of_eff (s_field_pt rfl Try.underlying29 rfl ti9 rfl rfl rfl) rfl)) ?_
  refine dr_put (d := 8) (v := .d (.fl (.string b.dev))) rfl (og rfl (op_load_pt rfl Try.underlying9 rfl rfl rfl rfl rfl)) ?_
  refine dr_put (d := 9) (v := .d (.fl (.int .i64 (sc a.dev b.dev)))) rfl (og rfl (op_call rfl Try.func51 nm51 rfl (.cons rfl (.d _) (.cons rfl (.d _) .nil)) (scC a.dev b.dev) rfl)) ?_
  refine dr_put (d := 10) (v := .pt 101 1) rfl (og rfl (of_eff (s_field_pt rfl Try.underlying29 rfl ti3 rfl rfl rfl) rfl)) ?_
  refine dr_put (d := 11) (v := .d (.fl (.int .i64 a.seq))) rfl (og rfl (op_load_pt rfl Try.underlying3 rfl rfl rfl rfl rfl)) ?_
  refine dr_put (d := 12) (v := .pt 102 1) rfl (og rfl (of_eff (s_field_pt rfl Try.underlying29 rfl ti3 rfl rfl rfl) rfl)) ?_
  refine dr_put (d := 13) (v := .d (.fl (.int .i64 b.seq))) rfl (og rfl (op_load_pt rfl Try.underlying3 rfl rfl rfl rfl rfl)) ?_
  refine dr_put (d := 14) (v := .d (.fl (.int .i64 (ic a.seq b.seq)))) rfl (og rfl (op_call rfl Try.func55 nm55 rfl (.cons rfl (.d _) (.cons rfl (.d _) .nil)) (icC a.seq b.seq) rfl)) ?_
  refine dr_put (d := 15) (v := .pt 101 2) rfl (og rfl (of_eff (s_field_pt rfl Try.underlying29 rfl ti3 rfl rfl rfl) rfl)) ?_
  refine dr_put (d := 16) (v := .d (.fl (.int .i64 a.time))) rfl (og rfl (op_load_pt rfl Try.underlying3 rfl rfl rfl rfl rfl)) ?_
  refine dr_put (d := 17) (v := .pt 102 2) rfl (og rfl (of_eff (s_field_pt rfl Try.underlying29 rfl ti3 rfl rfl rfl) rfl)) ?_
  refine dr_put (d := 18) (v := .d (.fl (.int .i64 b.time))) rfl (og rfl (op_load_pt rfl Try.underlying3 rfl rfl rfl rfl rfl)) ?_
  refine dr_put (d := 19) (v := .d (.fl (.int .i64 (ic a.time b.time)))) rfl (og rfl (op_call rfl Try.func55 nm55 rfl (.cons rfl (.d _) (.cons rfl (.d _) .nil)) (icC a.time b.time) rfl)) ?_
  refine dr_put (d := 20) (v := .pt 101 3) rfl (og rfl (of_eff (s_field_pt rfl Try.underlying29 rfl ti9 rfl rfl rfl) rfl)) ?_
  refine dr_put (d := 21) (v := .d (.fl (.string a.tag))) rfl (og rfl (op_load_pt rfl Try.underlying9 rfl rfl rfl rfl rfl)) ?_
  refine dr_put (d := 22) (v := .pt 102 3) rfl (og rfl (of_eff (s_field_pt rfl Try.underlying29 rfl ti9 rfl rfl rfl) rfl)) ?_
  refine dr_put (d := 23) (v := .d (.fl (.string b.tag))) rfl (og rfl (op_load_pt rfl Try.underlying9 rfl rfl rfl rfl rfl)) ?_
  refine dr_put (d := 24) (v := .d (.fl (.int .i64 (sc a.tag b.tag)))) rfl (og rfl (op_call rfl Try.func51 nm51 rfl (.cons rfl (.d _) (.cons rfl (.d _) .nil)) (scC a.tag b.tag) rfl)) ?_
  refine dr_put (d := 25) (v := .pt 101 4) rfl (og rfl (of_eff (s_field_pt rfl Try.underlying29 rfl ti9 rfl rfl rfl) rfl)) ?_
  refine dr_put (d := 26) (v := .d (.fl (.string a.plate))) rfl (og rfl (op_load_pt rfl Try.underlying9 rfl rfl rfl rfl rfl)) ?_
  refine dr_put (d := 27) (v := .pt 102 4) rfl (og rfl (of_eff (s_field_pt rfl Try.underlying29 rfl ti9 rfl rfl rfl) rfl)) ?_
  refine dr_put (d := 28) (v := .d (.fl (.string b.plate))) rfl (og rfl (op_load_pt rfl Try.underlying9 rfl rfl rfl rfl rfl)) ?_
  refine dr_put (d := 29) (v := .d (.fl (.int .i64 (sc a.plate b.plate)))) rfl (og rfl (op_call rfl Try.func51 nm51 rfl (.cons rfl (.d _) (.cons rfl (.d _) .nil)) (scC a.plate b.plate) rfl)) ?_
  refine dr_put (d := 30) (v := .pt 101 5) rfl (og rfl (of_eff (s_field_pt rfl Try.underlying29 rfl ti3 rfl rfl rfl) rfl)) ?_
  refine dr_put (d := 31) (v := .d (.fl (.int .i64 a.axl))) rfl (og rfl (op_load_pt rfl Try.underlying3 rfl rfl rfl rfl rfl)) ?_
  refine dr_put (d := 32) (v := .pt 102 5) rfl (og rfl (of_eff (s_field_pt rfl Try.underlying29 rfl ti3 rfl rfl rfl) rfl)) ?_
  refine dr_put (d := 33) (v := .d (.fl (.int .i64 b.axl))) rfl (og rfl (op_load_pt rfl Try.underlying3 rfl rfl rfl rfl rfl)) ?_
  refine dr_put (d := 34) (v := .d (.fl (.int .i64 (ic a.axl b.axl)))) rfl (og rfl (op_call rfl Try.func55 nm55 rfl (.cons rfl (.d _) (.cons rfl (.d _) .nil)) (icC a.axl b.axl) rfl)) ?_
  refine dr_put (d := 35) (v := .pt 101 6) rfl (og rfl (of_eff (s_field_pt rfl Try.underlying29 rfl ti3 rfl rfl rfl) rfl)) ?_
  refine dr_put (d := 36) (v := .d (.fl (.int .i64 a.score))) rfl (og rfl (op_load_pt rfl Try.underlying3 rfl rfl rfl rfl rfl)) ?_
  refine dr_put (d := 37) (v := .pt 102 6) rfl (og rfl (of_eff (s_field_pt rfl Try.underlying29 rfl ti3 rfl rfl rfl) rfl)) ?_
  refine dr_put (d := 38) (v := .d (.fl (.int .i64 b.score))) rfl (og rfl (op_load_pt rfl Try.underlying3 rfl rfl rfl rfl rfl)) ?_
  refine dr_put (d := 39) (v := .d (.fl (.int .i64 (ic a.score b.score)))) rfl (og rfl (op_call rfl Try.func55 nm55 rfl (.cons rfl (.d _) (.cons rfl (.d _) .nil)) (icC a.score b.score) rfl)) ?_
  refine dr_put (d := 40) (v := .d (.sl 1 (List.map (rI .i64) [(sc a.dev b.dev), (ic a.seq b.seq), (ic a.time b.time), (sc a.tag b.tag), (sc a.plate b.plate), (ic a.axl b.axl), (ic a.score b.score)]))) rfl (og rfl (of_eff (op_slices rfl Try.underlying32 ti3 rfl rfl rfl (by kernel_rfl) (xs := [.fl (.int .i64 (sc a.dev b.dev)), .fl (.int .i64 (ic a.seq b.seq)), .fl (.int .i64 (ic a.time b.time)), .fl (.int .i64 (sc a.tag b.tag)), .fl (.int .i64 (sc a.plate b.plate)), .fl (.int .i64 (ic a.axl b.axl)), .fl (.int .i64 (ic a.score b.score))]) rfl rfl (.cons rfl rfl (.d _) rfl rfl rfl (.cons rfl rfl (.d _) rfl rfl rfl (.cons rfl rfl (.d _) rfl rfl rfl (.cons rfl rfl (.d _) rfl rfl rfl (.cons rfl rfl (.d _) rfl rfl rfl (.cons rfl rfl (.d _) rfl rfl rfl (.cons rfl rfl (.d _) rfl rfl rfl .nil))))))) rfl) rfl)) ?_
  refine dr_put (d := 41) (v := .d (.fl (.int .i64 ((fz [(sc a.dev b.dev), (ic a.seq b.seq), (ic a.time b.time), (sc a.tag b.tag), (sc a.plate b.plate), (ic a.axl b.axl), (ic a.score b.score)]))))) rfl (og rfl (op_call rfl Try.func50 nm50 rfl (.cons rfl (.d _) .nil) (orC [(sc a.dev b.dev), (ic a.seq b.seq), (ic a.time b.time), (sc a.tag b.tag), (sc a.plate b.plate), (ic a.axl b.axl), (ic a.score b.score)] (by simp)) rfl)) ?_
  refine dr_put (d := 4) (v := .d (.fl (.int .i64 ((fz [(sc a.dev b.dev), (ic a.seq b.seq), (ic a.time b.time), (sc a.tag b.tag), (sc a.plate b.plate), (ic a.axl b.axl), (ic a.score b.score)]))))) rfl (og rfl (op_assign rfl rfl rfl)) ?_
  refine dr_done rfl (sepB_of [0, 1, 0, 4, 15, 0, 32, 0, 128, 511, 0, 1024, 0, 4096, 16383, 0, 32768, 0, 131072, 524287, 0, 1048576, 0, 4194304, 16777215, 0, 33554432, 0, 134217728, 536870911, 0, 1073741824, 0, 4294967296, 17179869183, 34359738367, 68719476735, 137438953471] (by kernel_rfl)) (by kernel_rfl) ?_
  refine a_ret ?_
  show ∃ ds, ResL _ _ _ ds ∧ RV.of ds = _
  refine ⟨[.fl (.int .i64 ((fz [(sc a.dev b.dev), (ic a.seq b.seq), (ic a.time b.time), (sc a.tag b.tag), (sc a.plate b.plate), (ic a.axl b.axl), (ic a.score b.score)])))], (.cons (.tmp rfl (.d _)) .nil), ?_⟩
  rfl
set_option maxHeartbeats 4000000 in
set_option maxRecDepth 100000 in
theorem csC (a b : Sen) : Ctr Try.prog 33 [.ag (eSen a), .ag (eSen b)] (.d (.fl (.int .i64 (cs a b)))) := by
  refine ctr (n := 36) (rs := #[.tmp 4]) (L := [(0, .d (.ag (eSen a))), (1, .d (.ag (eSen b)))]) Try.func33 rfl rfl rfl rfl rfl (fun w0 U0 => ?_)
  refine a_rseq ?_
  refine rg_nam (d := 2) (v := .pt 101 0) (m := 101) (nw := [(101, .bx 31 (eSen a))]) rfl (og rfl (of_eff (op_box 101 rfl rfl rfl rfl) rfl)) rfl ?_
  refine rg_nam (d := 3) (v := .pt 102 0) (m := 102) (nw := [(102, .bx 31 (eSen b))]) rfl (og rfl (of_eff (op_box 102 rfl rfl rfl rfl) rfl)) rfl ?_
  refine rg_put (d := 4) (v := .d (.fl (.int .i64 0))) rfl (og rfl (op_assign rfl rfl rfl)) ?_
  refine rg_done rfl ?_
  refine a_seq ?_
  refine a_rseq ?_
  refine rg_put (d := 6) (v := .pt 101 7) rfl (og rfl (of_eff (s_field_pt rfl Try.underlying31 rfl ti3 rfl rfl rfl) rfl)) ?_
  refine rg_put (d := 7) (v := .d (.fl (.int .i64 a.time))) rfl (og rfl (op_load_pt rfl Try.underlying3 rfl rfl rfl rfl rfl)) ?_
  refine rg_put (d := 8) (v := .pt 102 7) rfl (og rfl (of_eff (s_field_pt rfl Try.underlying31 rfl ti3 rfl rfl rfl) rfl)) ?_
  refine rg_put (d := 9) (v := .d (.fl (.int .i64 b.time))) rfl (og rfl (op_load_pt rfl Try.underlying3 rfl rfl rfl rfl rfl)) ?_
  refine rg_put (d := 10) (v := .d (.fl (.int .i64 (ic a.time b.time)))) rfl (og rfl (op_call rfl Try.func55 nm55 rfl (.cons rfl (.d _) (.cons rfl (.d _) .nil)) (icC a.time b.time) rfl)) ?_
  refine rg_put (d := 5) (v := .d (.fl (.int .i64 (ic a.time b.time)))) rfl (og rfl (op_assign rfl rfl rfl)) ?_
  refine rg_done rfl ?_
  refine a_rseq ?_
  refine rg_put (d := 11) (v := .d (.fl (.int .i64 (ic a.time b.time)))) rfl (og rfl (op_move rfl rfl rfl)) ?_
  refine rg_put (d := 12) (v := .d (.fl (.bool (((ic a.time b.time) != 0))))) rfl (og rfl (op_bin rfl rfl rfl (b_neq _ _ _ _) rfl)) ?_
  refine rg_done rfl ?_
  refine a_cond rfl (fun h1 => ?_) (fun h1 => ?_)
  · skip
    have h2 := t_bne h1
    refine a_rseq ?_
    refine rg_put (d := 13) (v := .d (.fl (.int .i64 (ic a.time b.time)))) rfl (og rfl (op_move rfl rfl rfl)) ?_
    refine rg_put (d := 4) (v := .d (.fl (.int .i64 (ic a.time b.time)))) rfl (og rfl (op_assign rfl rfl rfl)) ?_
    refine rg_done rfl ?_
    refine a_ret ?_
    show ∃ ds, ResL _ _ _ ds ∧ RV.of ds = _
    refine ⟨[.fl (.int .i64 (ic a.time b.time))], (.cons (.tmp rfl (.d _)) .nil), ?_⟩
    rw [cs_first h1]; rfl
  · skip
    have h3 := f_bne h1
    refine a_skip ?_
    show A _ _ _ _ _ _ _
    refine a_dseq (by kernel_rfl) ?_
    refine dr_put (d := 14) (v := .pt 101 8) rfl (og rfl (of_eff (s_field_pt rfl Try.underlying31 rfl ti9 rfl rfl rfl) rfl)) ?_
    refine dr_put (d := 15) (v := .d (.fl (.string a.point))) rfl (og rfl (op_load_pt rfl Try.underlying9 rfl rfl rfl rfl rfl)) ?_
    refine dr_put (d := 16) (v := .pt 102 8) rfl (og rfl (of_eff (s_field_pt rfl Try.underlying31 rfl ti9 rfl rfl rfl) rfl)) ?_
    refine dr_put (d := 17) (v := .d (.fl (.string b.point))) rfl (og rfl (op_load_pt rfl Try.underlying9 rfl rfl rfl rfl rfl)) ?_
    refine dr_put (d := 18) (v := .d (.fl (.int .i64 (sc a.point b.point)))) rfl (og rfl (op_call rfl Try.func51 nm51 rfl (.cons rfl (.d _) (.cons rfl (.d _) .nil)) (scC a.point b.point) rfl)) ?_
    refine dr_put (d := 19) (v := .pt 101 10) rfl (og rfl (of_eff (s_field_pt rfl Try.underlying31 rfl ti3 rfl rfl rfl) rfl)) ?_
    refine dr_put (d := 20) (v := .d (.fl (.int .i64 a.kind))) rfl (og rfl (op_load_pt rfl Try.underlying3 rfl rfl rfl rfl rfl)) ?_
    refine dr_put (d := 21) (v := .pt 102 10) rfl (og rfl (of_eff (s_field_pt rfl Try.underlying31 rfl ti3 rfl rfl rfl) rfl)) ?_
    refine dr_put (d := 22) (v := .d (.fl (.int .i64 b.kind))) rfl (og rfl (op_load_pt rfl Try.underlying3 rfl rfl rfl rfl rfl)) ?_
    refine dr_put (d := 23) (v := .d (.fl (.int .i64 (ic a.kind b.kind)))) rfl (og rfl (op_call rfl Try.func55 nm55 rfl (.cons rfl (.d _) (.cons rfl (.d _) .nil)) (icC a.kind b.kind) rfl)) ?_
    refine dr_put (d := 24) (v := .pt 101 9) rfl (og rfl (of_eff (s_field_pt rfl Try.underlying31 rfl ti3 rfl rfl rfl) rfl)) ?_
    refine dr_put (d := 25) (v := .d (.fl (.int .i64 a.lane))) rfl (og rfl (op_load_pt rfl Try.underlying3 rfl rfl rfl rfl rfl)) ?_
    refine dr_put (d := 26) (v := .pt 102 9) rfl (og rfl (of_eff (s_field_pt rfl Try.underlying31 rfl ti3 rfl rfl rfl) rfl)) ?_
    refine dr_put (d := 27) (v := .d (.fl (.int .i64 b.lane))) rfl (og rfl (op_load_pt rfl Try.underlying3 rfl rfl rfl rfl rfl)) ?_
    refine dr_put (d := 28) (v := .d (.fl (.int .i64 (ic a.lane b.lane)))) rfl (og rfl (op_call rfl Try.func55 nm55 rfl (.cons rfl (.d _) (.cons rfl (.d _) .nil)) (icC a.lane b.lane) rfl)) ?_
    refine dr_put (d := 29) (v := .pt 101 0) rfl (og rfl (of_eff (s_field_pt rfl Try.underlying31 rfl ti29 rfl rfl rfl) rfl)) ?_
    refine dr_put (d := 30) (v := .d (.ag (eDen a.d))) rfl (og rfl (of_eff (s_load_pts rfl Try.underlying29 rfl ti29 rfl rfl rfl rfl) rfl)) ?_
    refine dr_put (d := 31) (v := .pt 102 0) rfl (og rfl (of_eff (s_field_pt rfl Try.underlying31 rfl ti29 rfl rfl rfl) rfl)) ?_
    refine dr_put (d := 32) (v := .d (.ag (eDen b.d))) rfl (og rfl (of_eff (s_load_pts rfl Try.underlying29 rfl ti29 rfl rfl rfl rfl) rfl)) ?_
    refine dr_put (d := 33) (v := .d (.fl (.int .i64 (cdd a.d b.d)))) rfl (og rfl (op_call rfl Try.func56 nm56 rfl (.cons rfl (.d _) (.cons rfl (.d _) .nil)) (cddC a.d b.d) rfl)) ?_
    refine dr_put (d := 34) (v := .d (.sl 1 (List.map (rI .i64) [(sc a.point b.point), (ic a.kind b.kind), (ic a.lane b.lane), (cdd a.d b.d)]))) rfl (og rfl (of_eff (op_slices rfl Try.underlying32 ti3 rfl rfl rfl (by kernel_rfl) (xs := [.fl (.int .i64 (sc a.point b.point)), .fl (.int .i64 (ic a.kind b.kind)), .fl (.int .i64 (ic a.lane b.lane)), .fl (.int .i64 (cdd a.d b.d))]) rfl rfl (.cons rfl rfl (.d _) rfl rfl rfl (.cons rfl rfl (.d _) rfl rfl rfl (.cons rfl rfl (.d _) rfl rfl rfl (.cons rfl rfl (.d _) rfl rfl rfl .nil)))) rfl) rfl)) ?_
    refine dr_put (d := 35) (v := .d (.fl (.int .i64 ((fz [(sc a.point b.point), (ic a.kind b.kind), (ic a.lane b.lane), (cdd a.d b.d)]))))) rfl (og rfl (op_call rfl Try.func50 nm50 rfl (.cons rfl (.d _) .nil) (orC [(sc a.point b.point), (ic a.kind b.kind), (ic a.lane b.lane), (cdd a.d b.d)] (by simp)) rfl)) ?_
    refine dr_put (d := 4) (v := .d (.fl (.int .i64 ((fz [(sc a.point b.point), (ic a.kind b.kind), (ic a.lane b.lane), (cdd a.d b.d)]))))) rfl (og rfl (op_assign rfl rfl rfl)) ?_
    refine dr_done rfl (sepB_of [0, 1, 0, 4, 15, 0, 32, 0, 128, 511, 0, 1024, 0, 4096, 16383, 0, 32768, 0, 131072, 524287, 1048575, 2097151, 4194303] (by kernel_rfl)) (by kernel_rfl) ?_
    refine a_ret ?_
    show ∃ ds, ResL _ _ _ ds ∧ RV.of ds = _
    refine ⟨[.fl (.int .i64 ((fz [(sc a.point b.point), (ic a.kind b.kind), (ic a.lane b.lane), (cdd a.d b.d)])))], (.cons (.tmp rfl (.d _)) .nil), ?_⟩
    rw [cs_rest h1]; rfl
set_option maxHeartbeats 4000000 in
set_option maxRecDepth 100000 in
theorem cqC (a b : Sen) : Ctr Try.prog 49 [.ag (eSen a), .ag (eSen b)] (.d (.fl (.int .i64 (cq a b)))) := by
  refine ctr (n := 15) (rs := #[.tmp 4]) (L := [(0, .d (.ag (eSen a))), (1, .d (.ag (eSen b)))]) Try.func49 rfl rfl rfl rfl rfl (fun w0 U0 => ?_)
  refine a_rseq ?_
  refine rg_nam (d := 2) (v := .pt 101 0) (m := 101) (nw := [(101, .bx 31 (eSen a))]) rfl (og rfl (of_eff (op_box 101 rfl rfl rfl rfl) rfl)) rfl ?_
  refine rg_nam (d := 3) (v := .pt 102 0) (m := 102) (nw := [(102, .bx 31 (eSen b))]) rfl (og rfl (of_eff (op_box 102 rfl rfl rfl rfl) rfl)) rfl ?_
  refine rg_put (d := 4) (v := .d (.fl (.int .i64 0))) rfl (og rfl (op_assign rfl rfl rfl)) ?_
  refine rg_done rfl ?_
  refine a_dseq (by kernel_rfl) ?_
  refine dr_put (d := 5) (v := .pt 101 8) rfl (og rfl (of_eff (s_field_pt rfl Try.underlying31 rfl ti9 rfl rfl rfl) rfl)) ?_
  refine dr_put (d := 6) (v := .d (.fl (.string a.point))) rfl (og rfl (op_load_pt rfl Try.underlying9 rfl rfl rfl rfl rfl)) ?_
  refine dr_put (d := 7) (v := .pt 102 8) rfl (og rfl (of_eff (s_field_pt rfl Try.underlying31 rfl ti9 rfl rfl rfl) rfl)) ?_
  refine dr_put (d := 8) (v := .d (.fl (.string b.point))) rfl (og rfl (op_load_pt rfl Try.underlying9 rfl rfl rfl rfl rfl)) ?_
  refine dr_put (d := 9) (v := .d (.fl (.int .i64 (sc a.point b.point)))) rfl (og rfl (op_call rfl Try.func51 nm51 rfl (.cons rfl (.d _) (.cons rfl (.d _) .nil)) (scC a.point b.point) rfl)) ?_
  refine dr_put (d := 10) (v := .d (.ag (eSen a))) rfl (og rfl (of_eff (s_load_pts rfl Try.underlying31 rfl ti31 rfl rfl rfl rfl) rfl)) ?_
  refine dr_put (d := 11) (v := .d (.ag (eSen b))) rfl (og rfl (of_eff (s_load_pts rfl Try.underlying31 rfl ti31 rfl rfl rfl rfl) rfl)) ?_
  refine dr_put (d := 12) (v := .d (.fl (.int .i64 (cs a b)))) rfl (og rfl (op_call rfl Try.func33 nm33 rfl (.cons rfl (.d _) (.cons rfl (.d _) .nil)) (csC a b) rfl)) ?_
  refine dr_put (d := 13) (v := .d (.sl 1 (List.map (rI .i64) [(sc a.point b.point), (cs a b)]))) rfl (og rfl (of_eff (op_slices rfl Try.underlying32 ti3 rfl rfl rfl (by kernel_rfl) (xs := [.fl (.int .i64 (sc a.point b.point)), .fl (.int .i64 (cs a b))]) rfl rfl (.cons rfl rfl (.d _) rfl rfl rfl (.cons rfl rfl (.d _) rfl rfl rfl .nil)) rfl) rfl)) ?_
  refine dr_put (d := 14) (v := .d (.fl (.int .i64 ((fz [(sc a.point b.point), (cs a b)]))))) rfl (og rfl (op_call rfl Try.func50 nm50 rfl (.cons rfl (.d _) .nil) (orC [(sc a.point b.point), (cs a b)] (by simp)) rfl)) ?_
  refine dr_put (d := 4) (v := .d (.fl (.int .i64 ((fz [(sc a.point b.point), (cs a b)]))))) rfl (og rfl (op_assign rfl rfl rfl)) ?_
  refine dr_done rfl (by kernel_rfl) (by kernel_rfl) ?_
  refine a_ret ?_
  show ∃ ds, ResL _ _ _ ds ∧ RV.of ds = _
  refine ⟨[.fl (.int .i64 ((fz [(sc a.point b.point), (cs a b)])))], (.cons (.tmp rfl (.d _)) .nil), ?_⟩
  rfl
set_option maxHeartbeats 4000000 in
set_option maxRecDepth 100000 in
theorem cfC1 (a b : List Sen) (ha : a.length ≠ 0 ∧ a.length ≤ 100000) (hb : b.length ≠ 0 ∧ b.length ≤ 100000) : Ctr Try.prog 32 [.sl 11 (List.map eSen a), .sl 11 (List.map eSen b)] (.d (.fl (.int .i64 (cs (ix a 0) (ix b 0))))) := by
  refine ctr (n := 12) (rs := #[.tmp 4]) (L := [(0, .d (.sl 11 (List.map eSen a))), (1, .d (.sl 11 (List.map eSen b)))]) Try.func32 rfl rfl rfl rfl rfl (fun w0 U0 => ?_)
  refine a_rseq ?_
  refine rg_put (d := 4) (v := .d (.fl (.int .i64 0))) rfl (og rfl (op_assign rfl rfl rfl)) ?_
  refine rg_done rfl ?_
  refine a_dseq (by kernel_rfl) ?_
  refine dr_put (d := 5) (v := .d (.sl 11 (List.map eSen a))) rfl (og rfl (op_move rfl rfl rfl)) ?_
  refine dr_put (d := 6) (v := .el ((eSen (ix a 0)))) rfl (og rfl (s_index rfl Try.underlying22 ti31 rfl rfl (by omega) (row_at (by omega)) rfl)) ?_
  refine dr_put (d := 7) (v := .d (.ag (eSen (ix a 0)))) rfl (og rfl (of_eff (s_load_els rfl Try.underlying31 rfl ti31 rfl rfl rfl) rfl)) ?_
  refine dr_put (d := 8) (v := .d (.sl 11 (List.map eSen b))) rfl (og rfl (op_move rfl rfl rfl)) ?_
  refine dr_put (d := 9) (v := .el ((eSen (ix b 0)))) rfl (og rfl (s_index rfl Try.underlying22 ti31 rfl rfl (by omega) (row_at (by omega)) rfl)) ?_
  refine dr_put (d := 10) (v := .d (.ag (eSen (ix b 0)))) rfl (og rfl (of_eff (s_load_els rfl Try.underlying31 rfl ti31 rfl rfl rfl) rfl)) ?_
  refine dr_put (d := 11) (v := .d (.fl (.int .i64 ((cs (ix a 0) (ix b 0)))))) rfl (og rfl (op_call rfl Try.func33 nm33 rfl (.cons rfl (.d _) (.cons rfl (.d _) .nil)) (csC (ix a 0) (ix b 0)) rfl)) ?_
  refine dr_put (d := 4) (v := .d (.fl (.int .i64 ((cs (ix a 0) (ix b 0)))))) rfl (og rfl (op_assign rfl rfl rfl)) ?_
  refine dr_done rfl (by kernel_rfl) (by kernel_rfl) ?_
  refine a_ret ?_
  show ∃ ds, ResL _ _ _ ds ∧ RV.of ds = _
  refine ⟨[.fl (.int .i64 ((cs (ix a 0) (ix b 0))))], (.cons (.tmp rfl (.d _)) .nil), ?_⟩
  rfl
end Go.Proofs.Ytipkielpicfobaa.Wk
