/- Systems, kinds and points of a topology, both sides. No condition. -/
import Derived.Test.YtlmihhecpaomjaaGreatSs
import Derived.Test.YtlmihhecpaomjaaGreatAvI
import Derived.Test.YtlmihhecpaomjaaGreatB3
set_option linter.unusedSimpArgs false
set_option linter.unusedVariables false
namespace Go.Proofs.YtlmihhecpaomjaaGreat.Wk
open Go Go.RowKit Go.Proofs.YtlmihhecpaomjaaGreat.Av
def idx {α : Type} (p : α → Bool) (l : List α) : Int := match l.findIdx? p with
  | some i => (i : Int)
  | none => -1
theorem idx_at {α : Type} [Inhabited α] {p : α → Bool} {l : List α} {k : Nat} (hk : k < l.length) (h : ∀ q, q < k → p (ix l q) = false) (hp : p (ix l k) = true) : idx p l = (k : Int) := by
  have : l.findIdx? p = some k := by
    rw [List.findIdx?_eq_some_iff_getElem]
    refine ⟨hk, by rw [ix_eq hk]; exact hp, fun j hj => ?_⟩
    rw [ix_eq (by omega), h j hj]; simp
  unfold idx; rw [this]
theorem idx_no {α : Type} [Inhabited α] {p : α → Bool} {l : List α} (h : ∀ q, q < l.length → p (ix l q) = false) : idx p l = -1 := by
  have : l.findIdx? p = none := by
    rw [List.findIdx?_eq_none_iff]
    intro x hx
    obtain ⟨j, hj, he⟩ := List.mem_iff_getElem.1 hx
    rw [ix_eq hj] at he
    rw [← he]; exact h j hj
  unfold idx; rw [this]
theorem idx_cases {α : Type} [Inhabited α] (p : α → Bool) (l : List α) : (idx p l = -1 ∧ l.find? p = none) ∨ ∃ k : Nat, idx p l = (k : Int) ∧ k < l.length ∧ l.find? p = some (ix l k) := by
  cases h : l.findIdx? p with
  | none =>
    left
    rw [List.findIdx?_eq_none_iff] at h
    refine ⟨by unfold idx; rw [List.findIdx?_eq_none_iff.2 h], List.find?_eq_none.2 fun x hx => by rw [h x hx]; simp⟩
  | some k =>
    right
    have h0 := h
    rw [List.findIdx?_eq_some_iff_getElem] at h
    obtain ⟨hk, hp, hq⟩ := h
    refine ⟨k, by unfold idx; rw [h0], hk, ?_⟩
    rw [← ix_eq hk, List.find?_eq_some_iff_getElem]
    exact ⟨hp, k, hk, rfl, fun j hj => by simpa using hq j hj⟩
def nmI (l : List Pnt) (s : ByteArray) : Int := idx (fun x => sEq x.name s) l
def nmJ (l : List Sys) (s : ByteArray) : Int := idx (fun x => sEq x.name s) l
theorem fN_at {l : List Pnt} {s : ByteArray} (h : ¬ nmI l s < 0) : 0 ≤ nmI l s ∧ nmI l s < (l.length : Int) ∧ fN l s = (ix l (nmI l s).toNat, true) := by
  rcases idx_cases (fun x : Pnt => sEq x.name s) l with ⟨h1, _⟩ | ⟨k, h1, h2, h3⟩
  · unfold nmI at h; omega
  · have e : nmI l s = (k : Int) := h1
    rw [e]
    refine ⟨by omega, by omega, ?_⟩
    unfold fN pF
    rw [h3]; rfl
theorem fN_neg {l : List Pnt} {s : ByteArray} (h : nmI l s < 0) : fN l s = (zP, false) := by
  rcases idx_cases (fun x : Pnt => sEq x.name s) l with ⟨_, h2⟩ | ⟨k, h1, _⟩
  · unfold fN pF; rw [h2]
  · have e : nmI l s = (k : Int) := h1
    omega
def fS (l : List Sys) (s : ByteArray) : Sys × Bool := match sF l s with
  | some y => (y, true)
  | none => (zS, false)
theorem fS_at {l : List Sys} {s : ByteArray} (h : ¬ nmJ l s < 0) : 0 ≤ nmJ l s ∧ nmJ l s < (l.length : Int) ∧ fS l s = (ix l (nmJ l s).toNat, true) := by
  rcases idx_cases (fun x : Sys => sEq x.name s) l with ⟨h1, _⟩ | ⟨k, h1, h2, h3⟩
  · unfold nmJ at h; omega
  · have e : nmJ l s = (k : Int) := h1
    rw [e]
    refine ⟨by omega, by omega, ?_⟩
    unfold fS sF
    rw [h3]; rfl
theorem fS_neg {l : List Sys} {s : ByteArray} (h : nmJ l s < 0) : fS l s = (zS, false) := by
  rcases idx_cases (fun x : Sys => sEq x.name s) l with ⟨_, h2⟩ | ⟨k, h1, _⟩
  · unfold fS sF; rw [h2]
  · have e : nmJ l s = (k : Int) := h1
    omega
theorem flt_y {α : Type} [Inhabited α] {p : α → Bool} {l : List α} {k : Nat} (hk : k < l.length) (h : p (ix l k) = true) : (l.take k).filter p ++ [ix l k] = (l.take (k + 1)).filter p := by rw [take_ix hk, List.filter_append, List.filter_cons_of_pos h]; rfl
theorem flt_n {α : Type} [Inhabited α] {p : α → Bool} {l : List α} {k : Nat} (hk : k < l.length) (h : p (ix l k) = false) : (l.take k).filter p = (l.take (k + 1)).filter p := by rw [take_ix hk, List.filter_append, List.filter_cons_of_neg (by rw [h]; simp)]; simp
def pq (sys : ByteArray) (kind : Int) (p : Pnt) : Bool := sEq p.sys sys && (p.kind == kind)
/-- the names of the points of a system and kind, among the first k -/
def pn (l : List Pnt) (sys : ByteArray) (kind : Int) (k : Nat) : List ByteArray := ((l.take k).filter (pq sys kind)).map (·.name)
theorem pn_y {l : List Pnt} {sys : ByteArray} {kind : Int} {k : Nat} (hk : k < l.length) (h : pq sys kind (ix l k) = true) : pn l sys kind k ++ [(ix l k).name] = pn l sys kind (k + 1) := by unfold pn; rw [← flt_y hk h, List.map_append]; rfl
theorem pn_n {l : List Pnt} {sys : ByteArray} {kind : Int} {k : Nat} (hk : k < l.length) (h : pq sys kind (ix l k) = false) : pn l sys kind k = pn l sys kind (k + 1) := by unfold pn; rw [← flt_n hk h]
theorem pn_len (l : List Pnt) (sys : ByteArray) (kind : Int) (k : Nat) : (pn l sys kind k).length ≤ l.length := by
  unfold pn
  rw [List.length_map]
  refine Nat.le_trans (List.length_filter_le _ _) ?_
  rw [List.length_take]; omega
theorem kn_name {t : Tpg} {k : Nat} (hk : k < (kn t).length) : (ix (kn t) k).name.size ≤ 12 ∧ ∀ q, q < k → sEq (ix (kn t) q).name (ix (kn t) k).name = false := by
  have h := (gck_0 (vT_gck t)).2.2.1 k hk
  unfold pt1 at h
  cases h1 : Nm.nmB (ix (vT t).net.pts k).name with
  | false => rw [h1] at h; cases h
  | true =>
    rw [h1] at h
    cases h2 : dupP ((vT t).net.pts.take k) (ix (vT t).net.pts k).name with
    | true => rw [h2] at h; cases h
    | false =>
      refine ⟨?_, fun q hq => ?_⟩
      · unfold Nm.nmB at h1
        exact (@of_decide_eq_true _ (Classical.propDecidable _) h1).2.1
      · unfold dupP at h2
        rw [List.any_eq_false] at h2
        have hm : ix (kn t) q ∈ (vT t).net.pts.take k := by
          have hq2 : q < (vT t).net.pts.length := by unfold kn at hk; omega
          rw [List.mem_take_iff_getElem]
          exact ⟨q, by omega, ix_eq hq2⟩
        cases hb : sEq (ix (kn t) q).name (ix (kn t) k).name with
        | false => rfl
        | true => exact absurd hb (h2 _ hm)
theorem pn_mem {l : List Pnt} {sys : ByteArray} {kind : Int} {k : Nat} {s : ByteArray} (h : s ∈ pn l sys kind k) : ∃ q, q < k ∧ q < l.length ∧ (ix l q).name = s := by
  unfold pn at h
  obtain ⟨p, hp, rfl⟩ := List.mem_map.1 h
  have hm := (List.mem_filter.1 hp).1
  rw [List.mem_take_iff_getElem] at hm
  obtain ⟨q, hq, rfl⟩ := hm
  exact ⟨q, by omega, by omega, by rw [← ix_eq (by omega)]⟩
theorem pn_new {t : Tpg} {sys : ByteArray} {kind : Int} {k : Nat} (hk : k < (kn t).length) : (pn (kn t) sys kind k).any (fun y => sEq y (ix (kn t) k).name) = false := by
  refine List.any_eq_false.2 fun s hs he => ?_
  obtain ⟨q, h1, _, rfl⟩ := pn_mem hs
  have := (kn_name hk).2 q h1
  rw [he] at this; cases this
theorem pn_sz {t : Tpg} {sys : ByteArray} {kind : Int} {k : Nat} : ∀ s ∈ pn (kn t) sys kind k, s.size ≤ 12 := fun s hs => by
  obtain ⟨q, _, h2, rfl⟩ := pn_mem hs
  exact (kn_name h2).1
theorem kn_len (t : Tpg) : (kn t).length ≤ 64 := vT_len t

theorem less_at : ∀ (x y : List UInt8) (k : Nat), k < x.length → k < y.length → (∀ q, q < k → x.getD q 0 = y.getD q 0) → x.getD k 0 ≠ y.getD k 0 → Op.bytesLess x y = decide (x.getD k 0 < y.getD k 0)
  | [], _, _, h, _, _, _ => by simp at h
  | _ :: _, [], _, _, h, _, _ => by simp at h
  | a :: x, b :: y, 0, _, _, _, h => by
    have h' : a ≠ b := by simpa using h
    simp [Op.bytesLess, h']
  | a :: x, b :: y, k + 1, h1, h2, h3, h4 => by
    have e : a = b := by simpa using h3 0 (by omega)
    subst e
    have ih := less_at x y k (by simpa using h1) (by simpa using h2) (fun q hq => by simpa using h3 (q + 1) (by omega)) (by simpa using h4)
    simp [Op.bytesLess, ih, UInt8.lt_irrefl]
theorem less_end : ∀ (x y : List UInt8), (∀ q, q < x.length → q < y.length → x.getD q 0 = y.getD q 0) → Op.bytesLess x y = decide (x.length < y.length)
  | [], [], _ => by simp [Op.bytesLess]
  | [], _ :: _, _ => by simp [Op.bytesLess]
  | _ :: _, [], _ => by simp [Op.bytesLess]
  | a :: x, b :: y, h => by
    have e : a = b := by simpa using h 0 (by simp) (by simp)
    subst e
    have ih := less_end x y (fun q h1 h2 => by simpa using h (q + 1) (by simpa using h1) (by simpa using h2))
    simp [Op.bytesLess, ih, UInt8.lt_irrefl]
theorem dlen (s : ByteArray) : s.data.toList.length = s.size := by simp
theorem bef_at {a b : ByteArray} {k : Nat} (h1 : k < a.size) (h2 : k < b.size) (hq : ∀ q, q < k → bt a q = bt b q) (h : bt a k ≠ bt b k) : sLt a b = decide (((bt a k).toNat : Int) < ((bt b k).toNat : Int)) := by
  unfold sLt
  rw [ByteArray.toList_eq, ByteArray.toList_eq, less_at a.data.toList b.data.toList k (by rw [dlen]; exact h1) (by rw [dlen]; exact h2) hq h]
  show decide (bt a k < bt b k) = _
  rw [decide_eq_decide, UInt8.lt_iff_toNat_lt]
  omega
theorem bef_end {a b : ByteArray} {k : Nat} (h : ¬ (k < a.size ∧ k < b.size)) (hq : ∀ q, q < k → bt a q = bt b q) : sLt a b = decide ((a.size : Int) < (b.size : Int)) := by
  unfold sLt
  rw [ByteArray.toList_eq, ByteArray.toList_eq, less_end a.data.toList b.data.toList (fun q h1 h2 => hq q (by rw [dlen] at h1 h2; omega)), dlen, dlen, decide_eq_decide]
  omega
theorem sLt_self (s : ByteArray) : sLt s s = false := by
  rw [bef_end (a := s) (b := s) (k := s.size) (by omega) (fun _ _ => rfl)]
  simp
theorem sLt_ne {s u : ByteArray} (h : sLt s u = true) : sEq s u = false := by
  cases he : sEq s u with
  | false => rfl
  | true => rw [of_decide_eq_true (show decide (s = u) = true from he), sLt_self] at h; cases h
def ic (a b : Int) : Int := bif decide (a < b) then -1 else bif decide (b < a) then 1 else 0
def sc (s u : ByteArray) : Int := bif sEq s u then 0 else bif sLt s u then -1 else 1
theorem sc_lt {s u : ByteArray} (h : sLt s u = true) : sc s u = -1 := by unfold sc; rw [sLt_ne h, h]; rfl
theorem sc_gt {s u : ByteArray} (h : sLt s u = false) (h2 : (sLt s u || sEq s u) = false) : sc s u = 1 := by
  rw [h, Bool.false_or] at h2
  unfold sc; rw [h2, h]; rfl
theorem sc_eq {s u : ByteArray} (h : sLt s u = false) (h2 : (sLt s u || sEq s u) = true) : sc s u = 0 := by
  rw [h, Bool.false_or] at h2
  unfold sc; rw [h2]; rfl
def fz : List Int → Int
  | [] => 0
  | x :: l => bif x != 0 then x else fz l
theorem fz_at : ∀ {l : List Int} {k : Nat}, k < l.length → (∀ q, q < k → ix l q = 0) → ix l k ≠ 0 → fz l = ix l k
  | [], _, h, _, _ => by simp at h
  | x :: l, 0, _, _, h => by
    have h' : x ≠ 0 := h
    show (bif x != 0 then x else fz l) = x
    rw [show (x != 0) = true by simpa using h']; rfl
  | x :: l, k + 1, h1, h2, h3 => by
    have h' : x = 0 := h2 0 (by omega)
    show (bif x != 0 then x else fz l) = ix l k
    rw [show (x != 0) = false by simpa using h', cond_false]
    exact fz_at (by simpa using h1) (fun q hq => h2 (q + 1) (by omega)) h3
theorem fz_no : ∀ {l : List Int}, (∀ q, q < l.length → ix l q = 0) → fz l = 0
  | [], _ => rfl
  | x :: l, h => by
    have h' : x = 0 := h 0 (by simp)
    show (bif x != 0 then x else fz l) = 0
    rw [show (x != 0) = false by simpa using h', cond_false]
    exact fz_no (fun q hq => h (q + 1) (by simpa using hq))
theorem less_anti : ∀ (x y : List UInt8), Op.bytesLess x y = true → Op.bytesLess y x = false
  | [], [], h => by simp [Op.bytesLess] at h
  | [], _ :: _, _ => by simp [Op.bytesLess]
  | _ :: _, [], h => by simp [Op.bytesLess] at h
  | a :: x, b :: y, h => by
    simp only [Op.bytesLess, Bool.or_eq_true, decide_eq_true_eq, Bool.and_eq_true, beq_iff_eq] at h
    simp only [Op.bytesLess, Bool.or_eq_false_iff, decide_eq_false_iff_not, Bool.and_eq_false_iff]
    rcases h with h | ⟨rfl, h⟩
    · refine ⟨fun h2 => UInt8.lt_irrefl a (UInt8.lt_trans h h2), .inl ?_⟩
      simp only [beq_eq_false_iff_ne]
      intro e; subst e; exact UInt8.lt_irrefl _ h
    · exact ⟨UInt8.lt_irrefl a, .inr (less_anti x y h)⟩
theorem less_tot : ∀ (x y : List UInt8), Op.bytesLess x y = false → x ≠ y → Op.bytesLess y x = true
  | [], [], _, h => absurd rfl h
  | [], _ :: _, h, _ => by simp [Op.bytesLess] at h
  | _ :: _, [], _, _ => by simp [Op.bytesLess]
  | a :: x, b :: y, h, hn => by
    simp only [Op.bytesLess, Bool.or_eq_false_iff, decide_eq_false_iff_not, Bool.and_eq_false_iff] at h
    simp only [Op.bytesLess, Bool.or_eq_true, decide_eq_true_eq, Bool.and_eq_true, beq_iff_eq]
    by_cases e : a = b
    · subst e
      refine .inr ⟨rfl, less_tot x y ?_ (fun e => hn (by rw [e]))⟩
      rcases h.2 with h2 | h2
      · simp at h2
      · exact h2
    · left
      rcases UInt8.lt_or_lt_of_ne e with h2 | h2
      · exact absurd h2 h.1
      · exact h2
theorem less_tr : ∀ (x y z : List UInt8), Op.bytesLess x y = true → Op.bytesLess y z = true → Op.bytesLess x z = true
  | _, [], _, h, _ => by cases ‹List UInt8› <;> simp [Op.bytesLess] at h
  | _, _ :: _, [], _, h => by simp [Op.bytesLess] at h
  | [], _ :: _, _ :: _, _, _ => by simp [Op.bytesLess]
  | a :: x, b :: y, c :: z, h1, h2 => by
    simp only [Op.bytesLess, Bool.or_eq_true, decide_eq_true_eq, Bool.and_eq_true, beq_iff_eq] at h1 h2 ⊢
    rcases h1 with h1 | ⟨rfl, h1⟩
    · rcases h2 with h2 | ⟨rfl, h2⟩
      · exact .inl (UInt8.lt_trans h1 h2)
      · exact .inl h1
    · rcases h2 with h2 | ⟨rfl, h2⟩
      · exact .inl h2
      · exact .inr ⟨rfl, less_tr x y z h1 h2⟩
theorem sEq_t {s u : ByteArray} (h : sEq s u = true) : s = u := of_decide_eq_true h
theorem sEq_f {s u : ByteArray} (h : sEq s u = false) : s.toList ≠ u.toList := fun e => by
  have := toList_sEq s u
  rw [e] at this
  rw [h] at this; simp at this
theorem sEq_sym (s u : ByteArray) : sEq s u = sEq u s := by
  unfold sEq; rw [decide_eq_decide]; exact eq_comm
theorem sLt_anti {s u : ByteArray} (h : sLt s u = true) : sLt u s = false := less_anti _ _ h
theorem sLt_tot {s u : ByteArray} (h : sLt s u = false) (h2 : sEq s u = false) : sLt u s = true := less_tot _ _ h (sEq_f h2)
theorem sc_cases (s u : ByteArray) : (sc s u = 0 ∧ s = u) ∨ (sc s u = -1 ∧ sLt s u = true ∧ s ≠ u) ∨ (sc s u = 1 ∧ sLt u s = true ∧ s ≠ u) := by
  unfold sc
  cases h : sEq s u with
  | true => exact .inl ⟨rfl, sEq_t h⟩
  | false =>
    have hn : s ≠ u := fun e => by rw [e] at h; unfold sEq at h; simp at h
    cases h2 : sLt s u with
    | true => exact .inr (.inl ⟨rfl, rfl, hn⟩)
    | false => exact .inr (.inr ⟨rfl, sLt_tot h2 h, hn⟩)
def Neg (x y : Int) : Prop := x = -y
def Tq (x y z : Int) : Prop := x ≤ 0 → y ≤ 0 → z ≤ 0 ∧ (z < 0 ↔ x < 0 ∨ y < 0)
theorem sc_neg (s u : ByteArray) : sc s u = -(sc u s) := by
  rcases sc_cases s u with ⟨h, e⟩ | ⟨h, l, n⟩ | ⟨h, l, n⟩ <;> rcases sc_cases u s with ⟨h', e'⟩ | ⟨h', l', n'⟩ | ⟨h', l', n'⟩ <;> rw [h, h'] <;>
    first
      | rfl
      | exact absurd e'.symm n
      | exact absurd e.symm n'
      | (have := sLt_anti l; rw [l'] at this; cases this)
theorem sc_tq (s u v : ByteArray) : Tq (sc s u) (sc u v) (sc s v) := by
  intro h1 h2
  rcases sc_cases s u with ⟨h, e⟩ | ⟨h, l, n⟩ | ⟨h, l, n⟩
  · rw [e] at h ⊢
    rw [h]; omega
  · rcases sc_cases u v with ⟨h', e'⟩ | ⟨h', l', n'⟩ | ⟨h', l', n'⟩
    · subst e'
      rw [h', h]; omega
    · have hl : sLt s v = true := less_tr _ _ _ l l'
      rw [sc_lt hl, h, h']; omega
    · omega
  · omega
theorem ic_neg (a b : Int) : ic a b = -(ic b a) := by
  unfold ic
  cases h : decide (a < b) <;> cases h2 : decide (b < a) <;> simp at h h2 ⊢ <;> omega
theorem ic_val (a b : Int) : (a < b ∧ ic a b = -1) ∨ (a = b ∧ ic a b = 0) ∨ (b < a ∧ ic a b = 1) := by
  unfold ic
  cases h : decide (a < b) <;> cases h2 : decide (b < a) <;> simp at h h2 ⊢ <;> omega
theorem ic_tq (a b c : Int) : Tq (ic a b) (ic b c) (ic a c) := by
  intro h1 h2
  have := ic_val a b
  have := ic_val b c
  have := ic_val a c
  omega
theorem fz_neg : ∀ {l m : List Int}, l = m.map (fun x => -x) → fz l = -(fz m)
  | [], [], _ => rfl
  | [], _ :: _, h => by cases h
  | _ :: _, [], h => by cases h
  | x :: l, y :: m, h => by
    simp only [List.map_cons, List.cons.injEq] at h
    have ih := fz_neg h.2
    have hx := h.1
    simp only [fz]
    cases h1 : (x != 0) <;> cases h2 : (y != 0) <;> simp at h1 h2 ⊢ <;> omega
inductive T3 : List Int → List Int → List Int → Prop
  | nil : T3 [] [] []
  | cons {x y z : Int} {l m n : List Int} (h : Tq x y z) (hs : T3 l m n) : T3 (x :: l) (y :: m) (z :: n)
theorem fz_tq {l m n : List Int} (h : T3 l m n) : Tq (fz l) (fz m) (fz n) := by
  induction h with
  | nil => intro _ _; simp [fz]
  | @cons x y z l m n h hs ih =>
    unfold Tq at *
    simp only [fz]
    cases h1 : (x != 0) <;> cases h2 : (y != 0) <;> cases h3 : (z != 0) <;> simp at h1 h2 h3 ⊢ <;> omega
theorem fz_zero : ∀ {l : List Int}, fz l = 0 ↔ ∀ x ∈ l, x = 0
  | [] => by simp [fz]
  | x :: l => by
    have ih := fz_zero (l := l)
    simp only [fz, List.mem_cons, forall_eq_or_imp]
    cases h1 : (x != 0) <;> simp at h1 ⊢
    · rw [ih]; simp [h1]
    · intro h; exact absurd h h1
theorem fz_in : ∀ {l : List Int}, (∀ x ∈ l, -1 ≤ x ∧ x ≤ 1) → -1 ≤ fz l ∧ fz l ≤ 1
  | [], _ => by simp [fz]
  | x :: l, h => by
    have h0 := h x (by simp)
    have ih := fz_in (l := l) (fun y hy => h y (by simp [hy]))
    simp only [fz]
    cases (x != 0) <;> simp <;> omega
theorem sc_in (s u : ByteArray) : -1 ≤ sc s u ∧ sc s u ≤ 1 := by rcases sc_cases s u with h | h | h <;> omega
theorem ic_in (a b : Int) : -1 ≤ ic a b ∧ ic a b ≤ 1 := by have := ic_val a b; omega
def inD (u : List ByteArray) (s : ByteArray) : Nat → Bool
  | 0 => false
  | k + 1 => inD u s k || sLt s (ix u k)
def inO (u : List ByteArray) (s : ByteArray) : Nat → List ByteArray
  | 0 => []
  | k + 1 => (bif !(inD u s k) && sLt s (ix u k) then inO u s k ++ [s] else inO u s k) ++ [ix u k]
def insT (u : List ByteArray) (s : ByteArray) : List ByteArray := bif u.any (fun y => sEq y s) then u else bif inD u s u.length then inO u s u.length else inO u s u.length ++ [s]
theorem sc_of_le {y z : ByteArray} (h : y.data.toList ≤ z.data.toList) : sc y z ≤ 0 := by
  rcases sc_cases y z with ⟨e, _⟩ | ⟨e, _⟩ | ⟨e, h2, _⟩
  · omega
  · omega
  · exfalso
    unfold sLt at h2
    rw [ByteArray.toList_eq, ByteArray.toList_eq, Go.Proofs.bytesLess_eq, decide_eq_true_eq] at h2
    exact absurd h2 (List.not_lt.2 h)
theorem srtS_pw (l : List ByteArray) : (srtS l).Pairwise (fun y z => sc y z ≤ 0) := by
  unfold srtS
  rw [List.pairwise_map]
  exact (leK_sorted _).imp (fun h => sc_of_le h)
theorem sc_0 {y z : ByteArray} (h : sc y z = 0) : y = z := by rcases sc_cases y z with q | q | q <;> first | exact q.2 | omega
theorem srtS_eq {u w : List ByteArray} (hp : u.Perm w) (hs : u.Pairwise (fun y z => sc y z ≤ 0)) : u = srtS w :=
  perm_uniqL (fun y z h1 h2 => sc_0 (by have := sc_neg y z; omega)) (hp.trans (srtS_perm w).symm) hs (srtS_pw w)
theorem inD_no {u : List ByteArray} {s : ByteArray} : ∀ {k}, inD u s k = false → ∀ q, q < k → sLt s (ix u q) = false
  | 0, _, q, h => by omega
  | k + 1, hd, q, h => by
    simp only [inD, Bool.or_eq_false_iff] at hd
    rcases Nat.lt_succ_iff_lt_or_eq.1 h with e | e
    · exact inD_no hd.1 q e
    · rw [e]; exact hd.2
theorem inD_yes {u : List ByteArray} {s : ByteArray} : ∀ {k}, inD u s k = true → ∃ q, q < k ∧ sLt s (ix u q) = true
  | 0, h => by simp [inD] at h
  | k + 1, h => by
    simp only [inD, Bool.or_eq_true] at h
    rcases h with h | h
    · obtain ⟨q, h1, h2⟩ := inD_yes h; exact ⟨q, by omega, h2⟩
    · exact ⟨k, by omega, h⟩
theorem inO_perm {u : List ByteArray} {s : ByteArray} : ∀ k, k ≤ u.length → (inO u s k).Perm (u.take k ++ (bif inD u s k then [s] else []))
  | 0, _ => by simp [inO, inD]
  | k + 1, h => by
    have ih := inO_perm (u := u) (s := s) k (by omega)
    rw [take_ix (by omega)]
    simp only [inO, inD]
    cases hd : inD u s k with
    | true =>
      rw [hd] at ih
      simp only [Bool.not_true, Bool.false_and, cond_false, Bool.true_or, cond_true] at ih ⊢
      refine (List.Perm.append_right _ ih).trans ?_
      rw [List.append_assoc, List.append_assoc]
      exact List.Perm.append_left _ List.perm_append_comm
    | false =>
      rw [hd] at ih
      cases hl : sLt s (ix u k) with
      | true =>
        simp only [Bool.not_false, Bool.and_self, cond_true, Bool.or_true, cond_false, List.append_nil] at ih ⊢
        refine (List.Perm.append_right _ (List.Perm.append_right _ ih)).trans ?_
        rw [List.append_assoc, List.append_assoc]
        exact List.Perm.append_left _ List.perm_append_comm
      | false =>
        simp only [Bool.not_false, Bool.and_false, cond_false, Bool.or_false, List.append_nil] at ih ⊢
        exact List.Perm.append_right _ ih
theorem le_of_nlt {y z : ByteArray} (h : sLt y z = false) : sc z y ≤ 0 := by
  rcases sc_cases y z with q | q | q
  · have := sc_neg z y; omega
  · rw [q.2.1] at h; cases h
  · have := sc_neg z y; omega
theorem le_of_lt {y z : ByteArray} (h : sLt y z = true) : sc y z ≤ 0 := by
  rcases sc_cases y z with q | q | q
  · omega
  · omega
  · rw [sLt_anti q.2.1] at h; cases h
theorem inO_pw {u : List ByteArray} {s : ByteArray} (hs : u.Pairwise (fun y z => sc y z ≤ 0)) : ∀ k, k ≤ u.length → (inO u s k).Pairwise (fun y z => sc y z ≤ 0) ∧ (∀ y ∈ inO u s k, ∀ q, k ≤ q → q < u.length → sc y (ix u q) ≤ 0)
  | 0, _ => by simp [inO]
  | k + 1, h => by
    obtain ⟨h1, h2⟩ := inO_pw hs k (by omega)
    have hu : ∀ i j, i < j → j < u.length → sc (ix u i) (ix u j) ≤ 0 := fun i j hij hj => by
      have := List.pairwise_iff_getElem.1 hs i j (by omega) hj hij
      rwa [ix_eq (by omega), ix_eq hj] at this
    have hmem : ∀ y ∈ inO u s k, inD u s k = false → sc y s ≤ 0 := by
      intro y hy hd
      have := (inO_perm k (by omega)).subset hy
      rw [hd] at this
      simp only [cond_false, List.append_nil] at this
      obtain ⟨q, hq, rfl⟩ := List.getElem_of_mem this
      rw [List.length_take] at hq
      rw [List.getElem_take, ix_eq (by omega)]
      exact le_of_nlt (inD_no hd q (by omega))
    simp only [inO]
    cases hb : (!(inD u s k) && sLt s (ix u k)) with
    | true =>
      simp only [Bool.and_eq_true, Bool.not_eq_true'] at hb
      simp only [cond_true]
      refine ⟨?_, fun y hy q hq hl => ?_⟩
      · rw [List.pairwise_append, List.pairwise_append]
        refine ⟨⟨h1, List.pairwise_singleton _ _, fun a ha b hb' => by rw [List.mem_singleton] at hb'; rw [hb']; exact hmem a ha hb.1⟩, List.pairwise_singleton _ _, fun a ha b hb' => ?_⟩
        rw [List.mem_singleton] at hb'
        rw [hb']
        rcases List.mem_append.1 ha with ha | ha
        · exact h2 a ha k (Nat.le_refl _) (by omega)
        · rw [List.mem_singleton] at ha; rw [ha]; exact le_of_lt hb.2
      · rcases List.mem_append.1 hy with hy | hy
        · rcases List.mem_append.1 hy with hy | hy
          · exact h2 y hy q (by omega) hl
          · rw [List.mem_singleton] at hy
            rw [hy]
            exact (sc_tq s (ix u k) (ix u q) (le_of_lt hb.2) (hu k q (by omega) hl)).1
        · rw [List.mem_singleton] at hy; rw [hy]; exact hu k q (by omega) hl
    | false =>
      simp only [cond_false]
      refine ⟨?_, fun y hy q hq hl => ?_⟩
      · rw [List.pairwise_append]
        exact ⟨h1, List.pairwise_singleton _ _, fun a ha b hb' => by rw [List.mem_singleton] at hb'; rw [hb']; exact h2 a ha k (Nat.le_refl _) (by omega)⟩
      · rcases List.mem_append.1 hy with hy | hy
        · exact h2 y hy q (by omega) hl
        · rw [List.mem_singleton] at hy; rw [hy]; exact hu k q (by omega) hl
/-- one text more, in its place -/
theorem insT_srt (w : List ByteArray) (s : ByteArray) : insT (srtS w) s = srtS (bif w.any (fun y => sEq y s) then w else w ++ [s]) := by
  have ha : (srtS w).any (fun y => sEq y s) = w.any (fun y => sEq y s) := by
    have hp := srtS_perm w
    cases h : w.any (fun y => sEq y s) with
    | true => obtain ⟨y, hy, he⟩ := List.any_eq_true.1 h; exact List.any_eq_true.2 ⟨y, hp.symm.subset hy, he⟩
    | false => rw [List.any_eq_false] at h ⊢; exact fun y hy => h y (hp.subset hy)
  unfold insT
  rw [ha]
  cases h : w.any (fun y => sEq y s) with
  | true => rfl
  | false =>
    simp only [cond_false]
    have hpm := inO_perm (u := srtS w) (s := s) _ (Nat.le_refl _)
    obtain ⟨h1, _⟩ := inO_pw (s := s) (srtS_pw w) _ (Nat.le_refl _)
    rw [List.take_of_length_le (Nat.le_refl _)] at hpm
    cases hd : inD (srtS w) s (srtS w).length with
    | true =>
      rw [hd] at hpm
      exact srtS_eq (hpm.trans (List.Perm.append_right _ (srtS_perm w))) h1
    | false =>
      rw [hd] at hpm
      simp only [cond_false, List.append_nil] at hpm ⊢
      refine srtS_eq (List.Perm.append_right _ (hpm.trans (srtS_perm w))) ?_
      rw [List.pairwise_append]
      refine ⟨h1, List.pairwise_singleton _ _, fun a ha b hb => ?_⟩
      rw [List.mem_singleton] at hb
      rw [hb]
      obtain ⟨q, hq, rfl⟩ := List.getElem_of_mem (hpm.subset ha)
      rw [ix_eq hq]
      exact le_of_nlt (inD_no hd q hq)
theorem inO_len (u : List ByteArray) (s : ByteArray) : ∀ k, (inO u s k).length ≤ 2 * k
  | 0 => by simp [inO]
  | k + 1 => by
    have := inO_len u s k
    simp only [inO]
    cases (!(inD u s k) && sLt s (ix u k)) <;> simp only [cond_true, cond_false, List.length_append, List.length_singleton] <;> omega
theorem srtS_len (l : List ByteArray) : (srtS l).length = l.length := (srtS_perm l).length_eq
theorem srtS_nil : srtS [] = [] := List.length_eq_zero_iff.1 (by rw [srtS_len]; rfl)
/-- one more, if it isn't there -/
def adS (w : List ByteArray) (s : ByteArray) : List ByteArray := bif w.any (fun y => sEq y s) then w else w ++ [s]
theorem adS_y {w : List ByteArray} {s : ByteArray} (h : w.any (fun y => sEq y s) = true) : adS w s = w := by simp only [adS, h, cond_true]
theorem adS_n {w : List ByteArray} {s : ByteArray} (h : w.any (fun y => sEq y s) = false) : adS w s = w ++ [s] := by simp only [adS, h, cond_false]
theorem adS_len (w : List ByteArray) (s : ByteArray) : (adS w s).length ≤ w.length + 1 := by
  unfold adS
  cases w.any (fun y => sEq y s) <;> simp
theorem adS_mem {w : List ByteArray} {s x : ByteArray} : x ∈ adS w s ↔ x ∈ w ∨ x = s := by
  cases h : w.any (fun y => sEq y s) with
  | true =>
    rw [adS_y h]
    obtain ⟨y, hy, he⟩ := List.any_eq_true.1 h
    exact ⟨.inl, fun hx => hx.elim id (fun e => by rw [e, ← sEq_eq he]; exact hy)⟩
  | false => rw [adS_n h]; simp
theorem adS_nd {w : List ByteArray} {s : ByteArray} (hn : w.Nodup) : (adS w s).Nodup := by
  cases h : w.any (fun y => sEq y s) with
  | true => rw [adS_y h]; exact hn
  | false =>
    rw [adS_n h]
    refine List.nodup_append.2 ⟨hn, by simp, fun a ha b hb e => ?_⟩
    rw [List.mem_singleton] at hb
    exact List.any_eq_false.1 h a ha (sEq_of (e.trans hb))
def setV (l : List ByteArray) : List (Value × DV) := l.map fun s => (Value.string s, DV.fl (.bool true))
theorem srtS_same {u w : List ByteArray} (hu : u.Nodup) (hw : w.Nodup) (h : ∀ x, x ∈ u ↔ x ∈ w) : srtS u = srtS w :=
  srtS_eq ((srtS_perm u).trans ((List.perm_ext_iff_of_nodup hu hw).2 h)) (srtS_pw u)

set_option maxHeartbeats 4000000 in
set_option maxRecDepth 100000 in
theorem befR (s u : ByteArray) (hs : s.size ≤ 12) (hz : u.size ≤ 12) : Ctr Tryz.prog 36 [.fl (.string s), .fl (.string u)] (.d (.fl (.bool (sLt s u)))) := by
  refine ctr (n := 37) (rs := #[.tmp 4]) (L := [(0, .d (.fl (.string s))), (1, .d (.fl (.string u)))]) Tryz.func36 rfl rfl rfl rfl rfl (fun w0 U0 => ?_)
  refine a_rseq ?_
  refine rg_put (d := 4) (v := .d (.fl (.bool false))) rfl (og rfl (op_assign rfl rfl rfl)) ?_
  refine rg_done rfl ?_
  refine a_seq ?_
  refine a_rseq ?_
  refine rg_put (d := 5) (v := .d (.fl (.int .i64 0))) rfl (og rfl (op_assign rfl rfl rfl)) ?_
  refine rg_done rfl ?_
  refine a_block ?_
  refine a_loop (ι := Nat) (fun k => SS [(0, .d (.fl (.string s))), (1, .d (.fl (.string u))), (5, .d (.fl (.int .i64 (k : Int))))] []) (fun k => k ≤ s.size ∧ k ≤ u.size ∧ ∀ q, q < k → bt s q = bt u q) (fun k => s.size - k) 0 (⟨by omega, by omega, fun q h => by omega⟩) (imp_forget rfl ⟨rfl, rfl, (by first | rfl | exact ci (by omega) | exact ci (by simp) | exact cd (by simp) | simp), trivial⟩ trivial) (fun k hok => ?_)
  obtain ⟨hk, hk2, hq⟩ := hok
  refine a_seq ?_
  refine a_rseq ?_
  refine rg_put (d := 6) (v := .d (.fl (.int .i64 (k : Int)))) rfl (og rfl (op_move rfl rfl rfl)) ?_
  refine rg_put (d := 7) (v := .d (.fl (.string s))) rfl (og rfl (op_move rfl rfl rfl)) ?_
  refine rg_put (d := 8) (v := .d (.fl (.int .i64 (s.size : Int)))) rfl (og rfl (op_len_str rfl Tryz.underlying9 rfl rfl)) ?_
  refine rg_put (d := 9) (v := .d (.fl (.bool ((decide ((k : Int) < (s.size : Int))))))) rfl (og rfl (op_bin rfl rfl rfl (b_lss _ _ _ _) rfl)) ?_
  refine rg_put (d := 10) (v := .d (.fl (.bool ((decide ((k : Int) < (s.size : Int))))))) rfl (og rfl (op_move rfl rfl rfl)) ?_
  rcases fot ((decide ((k : Int) < (s.size : Int)))) with h1 | h1
  · skip
    have h2 := f_dec h1
    refine rg_put (d := 11) (v := .d (.fl undef)) rfl (on rfl rfl rfl h1) ?_
    refine rg_put (d := 12) (v := .d (.fl undef)) rfl (on rfl rfl rfl h1) ?_
    refine rg_put (d := 13) (v := .d (.fl undef)) rfl (on rfl rfl rfl h1) ?_
    refine rg_put (d := 14) (v := .d (.fl undef)) rfl (on rfl rfl rfl h1) ?_
    refine rg_put (d := 15) (v := .d (.fl (.bool false))) rfl (og rfl (op_pick rfl rfl (by rw [h1]; rfl) rfl)) ?_
    refine rg_done rfl ?_
    refine a_condF rfl rfl ?_
    refine a_exit ?_
    show A _ _ _ _ _ _ _
    refine a_rseq ?_
    refine rg_put (d := 32) (v := .d (.fl (.string s))) rfl (og rfl (op_move rfl rfl rfl)) ?_
    refine rg_put (d := 33) (v := .d (.fl (.int .i64 (s.size : Int)))) rfl (og rfl (op_len_str rfl Tryz.underlying9 rfl rfl)) ?_
    refine rg_put (d := 34) (v := .d (.fl (.string u))) rfl (og rfl (op_move rfl rfl rfl)) ?_
    refine rg_put (d := 35) (v := .d (.fl (.int .i64 (u.size : Int)))) rfl (og rfl (op_len_str rfl Tryz.underlying9 rfl rfl)) ?_
    refine rg_put (d := 36) (v := .d (.fl (.bool ((decide ((s.size : Int) < (u.size : Int))))))) rfl (og rfl (op_bin rfl rfl rfl (b_lss _ _ _ _) rfl)) ?_
    refine rg_put (d := 4) (v := .d (.fl (.bool ((decide ((s.size : Int) < (u.size : Int))))))) rfl (og rfl (op_assign rfl rfl rfl)) ?_
    refine rg_done rfl ?_
    refine a_ret ?_
    show ∃ ds, ResL _ _ _ ds ∧ RV.of ds = _
    refine ⟨[.fl (.bool ((decide ((s.size : Int) < (u.size : Int)))))], (.cons (.tmp rfl (.d _)) .nil), ?_⟩
    rw [bef_end (k := k) (by omega) hq]; rfl
  · skip
    have h3 := t_dec h1
    refine rg_put (d := 11) (v := .d (.fl (.int .i64 (k : Int)))) rfl (oy rfl rfl rfl h1 (op_move rfl rfl rfl)) ?_
    refine rg_put (d := 12) (v := .d (.fl (.string u))) rfl (oy rfl rfl rfl h1 (op_move rfl rfl rfl)) ?_
    refine rg_put (d := 13) (v := .d (.fl (.int .i64 (u.size : Int)))) rfl (oy rfl rfl rfl h1 (op_len_str rfl Tryz.underlying9 rfl rfl)) ?_
    refine rg_put (d := 14) (v := .d (.fl (.bool ((decide ((k : Int) < (u.size : Int))))))) rfl (oy rfl rfl rfl h1 (op_bin rfl rfl rfl (b_lss _ _ _ _) rfl)) ?_
    refine rg_put (d := 15) (v := .d (.fl (.bool ((decide ((k : Int) < (u.size : Int))))))) rfl (og rfl (op_pick rfl rfl (by rw [h1]; rfl) rfl)) ?_
    refine rg_done rfl ?_
    refine a_cond rfl (fun h4 => ?_) (fun h4 => ?_)
    · skip
      have h5 := t_dec h4
      refine a_skip ?_
      show A _ _ _ _ _ _ _
      refine a_seq ?_
      refine a_block ?_
      refine a_dseq (by kernel_rfl) ?_
      refine dr_put (d := 18) (v := .d (.fl (.string s))) rfl (og rfl (op_move rfl rfl rfl)) ?_
      refine dr_put (d := 19) (v := .d (.fl (.int .i64 (k : Int)))) rfl (og rfl (op_move rfl rfl rfl)) ?_
      refine dr_put (d := 20) (v := .d (.fl (.int .u8 (((bt s k).toNat : Int))))) rfl (og rfl (op_strindex rfl Tryz.underlying9 rfl rfl (by omega) (byte_ix (by omega)) rfl)) ?_
      refine dr_put (d := 21) (v := .d (.fl (.string u))) rfl (og rfl (op_move rfl rfl rfl)) ?_
      refine dr_put (d := 22) (v := .d (.fl (.int .i64 (k : Int)))) rfl (og rfl (op_move rfl rfl rfl)) ?_
      refine dr_put (d := 23) (v := .d (.fl (.int .u8 (((bt u k).toNat : Int))))) rfl (og rfl (op_strindex rfl Tryz.underlying9 rfl rfl (by omega) (byte_ix (by omega)) rfl)) ?_
      refine dr_put (d := 24) (v := .d (.fl (.bool ((((bt s k).toNat : Int) != ((bt u k).toNat : Int)))))) rfl (og rfl (op_bin rfl rfl rfl (b_neq _ _ _ _) rfl)) ?_
      refine dr_done rfl (by kernel_rfl) (by kernel_rfl) ?_
      refine a_cond rfl (fun h6 => ?_) (fun h6 => ?_)
      · skip
        have h7 := t_bne h6
        refine a_dseq (by kernel_rfl) ?_
        refine dr_put (d := 25) (v := .d (.fl (.string s))) rfl (og rfl (op_move rfl rfl rfl)) ?_
        refine dr_put (d := 26) (v := .d (.fl (.int .i64 (k : Int)))) rfl (og rfl (op_move rfl rfl rfl)) ?_
        refine dr_put (d := 27) (v := .d (.fl (.int .u8 (((bt s k).toNat : Int))))) rfl (og rfl (op_strindex rfl Tryz.underlying9 rfl rfl (by omega) (byte_ix (by omega)) rfl)) ?_
        refine dr_put (d := 28) (v := .d (.fl (.string u))) rfl (og rfl (op_move rfl rfl rfl)) ?_
        refine dr_put (d := 29) (v := .d (.fl (.int .i64 (k : Int)))) rfl (og rfl (op_move rfl rfl rfl)) ?_
        refine dr_put (d := 30) (v := .d (.fl (.int .u8 (((bt u k).toNat : Int))))) rfl (og rfl (op_strindex rfl Tryz.underlying9 rfl rfl (by omega) (byte_ix (by omega)) rfl)) ?_
        refine dr_put (d := 31) (v := .d (.fl (.bool ((decide (((bt s k).toNat : Int) < ((bt u k).toNat : Int))))))) rfl (og rfl (op_bin rfl rfl rfl (b_lss _ _ _ _) rfl)) ?_
        refine dr_put (d := 4) (v := .d (.fl (.bool ((decide (((bt s k).toNat : Int) < ((bt u k).toNat : Int))))))) rfl (og rfl (op_assign rfl rfl rfl)) ?_
        refine dr_done rfl (by kernel_rfl) (by kernel_rfl) ?_
        refine a_ret ?_
        show ∃ ds, ResL _ _ _ ds ∧ RV.of ds = _
        refine ⟨[.fl (.bool ((decide (((bt s k).toNat : Int) < ((bt u k).toNat : Int)))))], (.cons (.tmp rfl (.d _)) .nil), ?_⟩
        have hne : bt s k ≠ bt u k := fun e => by have := t_bne h6; rw [e] at this; exact this rfl
        rw [bef_at (by omega) (by omega) hq hne]; rfl
      · skip
        have h8 := f_bne h6
        refine a_skip ?_
        show A _ _ _ _ _ _ _
        refine a_region ?_
        refine rg_put (d := 16) (v := .d (.fl (.int .i64 (k : Int)))) rfl (og rfl (op_move rfl rfl rfl)) ?_
        refine rg_put (d := 17) (v := .d (.fl (.int .i64 (((k : Int) + 1))))) rfl (og rfl (op_bin rfl rfl rfl (fun x y w => b_add64 _ _ _ x y w (by omega)) rfl)) ?_
        refine rg_put (d := 5) (v := .d (.fl (.int .i64 (((k : Int) + 1))))) rfl (og rfl (op_assign rfl rfl rfl)) ?_
        refine rg_done rfl ?_
        have hx : bt s k = bt u k := UInt8.toNat_inj.1 (by have := f_bne h6; omega)
        show ∃ i, _ ∧ _ ∧ Imp _ _ _ _ _
        refine ⟨k + 1, ⟨by omega, by omega, fun q h => (Nat.lt_succ_iff_lt_or_eq.1 h).elim (hq q) (fun e => by rw [e]; exact hx)⟩, by omega, imp_forget rfl ⟨rfl, rfl, (by first | rfl | exact ci (by omega) | exact ci (by simp) | exact cd (by simp) | simp), trivial⟩ trivial⟩
    · skip
      have h9 := f_dec h4
      refine a_exit ?_
      show A _ _ _ _ _ _ _
      refine a_rseq ?_
      refine rg_put (d := 32) (v := .d (.fl (.string s))) rfl (og rfl (op_move rfl rfl rfl)) ?_
      refine rg_put (d := 33) (v := .d (.fl (.int .i64 (s.size : Int)))) rfl (og rfl (op_len_str rfl Tryz.underlying9 rfl rfl)) ?_
      refine rg_put (d := 34) (v := .d (.fl (.string u))) rfl (og rfl (op_move rfl rfl rfl)) ?_
      refine rg_put (d := 35) (v := .d (.fl (.int .i64 (u.size : Int)))) rfl (og rfl (op_len_str rfl Tryz.underlying9 rfl rfl)) ?_
      refine rg_put (d := 36) (v := .d (.fl (.bool ((decide ((s.size : Int) < (u.size : Int))))))) rfl (og rfl (op_bin rfl rfl rfl (b_lss _ _ _ _) rfl)) ?_
      refine rg_put (d := 4) (v := .d (.fl (.bool ((decide ((s.size : Int) < (u.size : Int))))))) rfl (og rfl (op_assign rfl rfl rfl)) ?_
      refine rg_done rfl ?_
      refine a_ret ?_
      show ∃ ds, ResL _ _ _ ds ∧ RV.of ds = _
      refine ⟨[.fl (.bool ((decide ((s.size : Int) < (u.size : Int)))))], (.cons (.tmp rfl (.d _)) .nil), ?_⟩
      rw [bef_end (k := k) (by omega) hq]; rfl
set_option maxHeartbeats 4000000 in
set_option maxRecDepth 100000 in
theorem insC (u : List ByteArray) (s : ByteArray) (hu : u.length ≤ 2000) (hz : ∀ y ∈ u, y.size ≤ 12) (hs : s.size ≤ 12) : Ctr Tryz.prog 20 [.sl 1 (List.map rS u), .fl (.string s)] (.d (.sl 1 (List.map rS (insT u s)))) := by
  refine ctr (n := 49) (rs := #[.tmp 4]) (L := [(0, .d (.sl 1 (List.map rS u))), (1, .d (.fl (.string s)))]) Tryz.func20 rfl rfl rfl rfl rfl (fun w0 U0 => ?_)
  refine a_rseq ?_
  refine rg_put (d := 4) (v := .d (.fl (.slice none 0 0))) rfl (og rfl (op_assign rfl rfl rfl)) ?_
  refine rg_done rfl ?_
  refine a_rseq ?_
  refine rg_put (d := 5) (v := .d (.fl (.slice none 0 0))) rfl (og rfl (op_assign rfl rfl rfl)) ?_
  refine rg_done rfl ?_
  refine a_rseq ?_
  refine rg_imp (imp_nilT 5 101 9 1 rfl rfl) ?_
  refine rg_put (d := 6) (v := .d (.fl (.bool false))) rfl (og rfl (op_assign rfl rfl rfl)) ?_
  refine rg_done rfl ?_
  refine a_seq ?_
  refine a_rseq ?_
  refine rg_put (d := 7) (v := .d (.fl (.int .i64 0))) rfl (og rfl (op_assign rfl rfl rfl)) ?_
  refine rg_done rfl ?_
  refine a_block ?_
  refine a_loop (ι := Nat) (fun k => SS [(0, .d (.sl 1 (List.map rS u))), (1, .d (.fl (.string s))), (7, .d (.fl (.int .i64 (k : Int)))), (6, .d (.fl (.bool (inD u s k)))), (5, .ow 101)] [(101, .tr 9 1 (tD rS (inO u s k)))]) (fun k => k ≤ u.length ∧ ∀ q, q < k → sEq (ix u q) s = false) (fun k => u.length - k) 0 (⟨by omega, fun q h => by omega⟩) (imp_forget rfl ⟨rfl, rfl, (by first | rfl | exact ci (by omega) | exact ci (by simp) | exact cd (by simp) | simp), rfl, (by first | rfl | exact ci (by omega) | exact ci (by simp) | exact cd (by simp) | simp), trivial⟩ ⟨rfl, trivial⟩) (fun k hok => ?_)
  obtain ⟨hk, hq⟩ := hok
  have hil := inO_len u s k
  refine a_seq ?_
  refine a_rseq ?_
  refine rg_put (d := 8) (v := .d (.fl (.int .i64 (k : Int)))) rfl (og rfl (op_move rfl rfl rfl)) ?_
  refine rg_put (d := 9) (v := .d (.sl 1 (List.map rS u))) rfl (og rfl (op_move rfl rfl rfl)) ?_
  refine rg_put (d := 10) (v := .d (.fl (.int .i64 (u.length : Int)))) rfl (og rfl (s_len rfl Tryz.underlying36 rfl rfl)) ?_
  refine rg_put (d := 11) (v := .d (.fl (.bool ((decide ((k : Int) < (u.length : Int))))))) rfl (og rfl (op_bin rfl rfl rfl (b_lss _ _ _ _) rfl)) ?_
  refine rg_done rfl ?_
  refine a_cond rfl (fun h1 => ?_) (fun h1 => ?_)
  · skip
    have h2 := t_dec h1
    refine a_skip ?_
    show A _ _ _ _ _ _ _
    refine a_seq ?_
    refine a_block ?_
    refine a_seq ?_
    refine a_rseq ?_
    refine rg_put (d := 14) (v := .d (.sl 1 (List.map rS u))) rfl (og rfl (op_move rfl rfl rfl)) ?_
    refine rg_put (d := 15) (v := .d (.fl (.int .i64 (k : Int)))) rfl (og rfl (op_move rfl rfl rfl)) ?_
    refine rg_put (d := 16) (v := .el ((rS (ix u k)))) rfl (og rfl (s_index rfl Tryz.underlying36 ti9 rfl rfl (by omega) (row_at (by omega)) rfl)) ?_
    refine rg_put (d := 17) (v := .d (.fl (.string (ix u k)))) rfl (og rfl (op_load_el rfl Tryz.underlying9 rfl rfl rfl rfl)) ?_
    refine rg_put (d := 18) (v := .d (.fl (.string s))) rfl (og rfl (op_move rfl rfl rfl)) ?_
    refine rg_put (d := 19) (v := .d (.fl (.bool ((sEq (ix u k) s))))) rfl (og rfl (op_bin rfl rfl rfl (b_seq _ _ _) rfl)) ?_
    refine rg_done rfl ?_
    refine a_cond rfl (fun h3 => ?_) (fun h3 => ?_)
    · skip
      refine a_rseq ?_
      refine rg_put (d := 20) (v := .d (.sl 1 (List.map rS u))) rfl (og rfl (op_move rfl rfl rfl)) ?_
      refine rg_put (d := 4) (v := .d (.sl 1 (List.map rS u))) rfl (og rfl (op_assign rfl rfl rfl)) ?_
      refine rg_done rfl ?_
      refine a_ret ?_
      show ∃ ds, ResL _ _ _ ds ∧ RV.of ds = _
      refine ⟨[.sl 1 (List.map rS u)], (.cons (.tmp rfl (.d _)) .nil), ?_⟩
      rw [show insT u s = u from by unfold insT; rw [any_at (p := fun y => sEq y s) (by omega) h3]; rfl]; rfl
    · skip
      refine a_skip ?_
      show A _ _ _ _ _ _ _
      refine a_seq ?_
      refine a_rseq ?_
      refine rg_put (d := 21) (v := .d (.fl (.bool (inD u s k)))) rfl (og rfl (op_move rfl rfl rfl)) ?_
      refine rg_put (d := 22) (v := .d (.fl (.bool ((!(inD u s k)))))) rfl (og rfl (op_un rfl rfl (u_not _) rfl)) ?_
      refine rg_put (d := 23) (v := .d (.fl (.bool ((!(inD u s k)))))) rfl (og rfl (op_move rfl rfl rfl)) ?_
      rcases fot ((!(inD u s k))) with h4 | h4
      · skip
        have h5 := f_not h4
        refine rg_put (d := 24) (v := .d (.fl undef)) rfl (on rfl rfl rfl h4) ?_
        refine rg_put (d := 25) (v := .d (.fl undef)) rfl (on rfl rfl rfl h4) ?_
        refine rg_put (d := 26) (v := .d (.fl undef)) rfl (on rfl rfl rfl h4) ?_
        refine rg_put (d := 27) (v := .d (.fl undef)) rfl (on rfl rfl rfl h4) ?_
        refine rg_put (d := 28) (v := .d (.fl undef)) rfl (on rfl rfl rfl h4) ?_
        refine rg_put (d := 29) (v := .d (.fl undef)) rfl (on rfl rfl rfl h4) ?_
        refine rg_put (d := 30) (v := .d (.fl (.bool false))) rfl (og rfl (op_pick rfl rfl (by rw [h4]; rfl) rfl)) ?_
        refine rg_done rfl ?_
        refine a_condF rfl rfl ?_
        refine a_skip ?_
        show A _ _ _ _ _ _ _
        refine a_region ?_
        refine rg_put (d := 35) (v := .ow 101) rfl (og rfl (op_move rfl rfl rfl)) ?_
        refine rg_put (d := 36) (v := .d (.sl 1 (List.map rS u))) rfl (og rfl (op_move rfl rfl rfl)) ?_
        refine rg_put (d := 37) (v := .d (.fl (.int .i64 (k : Int)))) rfl (og rfl (op_move rfl rfl rfl)) ?_
        refine rg_put (d := 38) (v := .el ((rS (ix u k)))) rfl (og rfl (s_index rfl Tryz.underlying36 ti9 rfl rfl (by omega) (row_at (by omega)) rfl)) ?_
        refine rg_put (d := 39) (v := .d (.fl (.string (ix u k)))) rfl (og rfl (op_load_el rfl Tryz.underlying9 rfl rfl rfl rfl)) ?_
        refine rg_put (d := 40) (v := .d (.sl 1 (List.map rS [(ix u k)]))) rfl (og rfl (of_eff (op_slices rfl Tryz.underlying36 ti9 rfl rfl rfl (by kernel_rfl) (xs := [.fl (.string (ix u k))]) rfl rfl (.cons rfl rfl (.d _) rfl rfl rfl .nil) rfl) rfl)) ?_
        refine rg_nam (d := 41) (v := .ow 102) (m := 102) (nw := [(102, .tr 9 1 (tD rS (((inO u s k) ++ [(ix u k)])))), (101, .no)]) rfl (og rfl (of_eff (s_append_td 102 rfl Tryz.underlying36 ti9 rfl rfl rfl rfl rfl (.d _) (by simp only [List.length_append, List.length_cons, List.length_nil]; omega) rfl) rfl)) rfl ?_
        refine rg_put (d := 5) (v := .ow 102) rfl (og rfl (op_assign rfl rfl rfl)) ?_
        refine rg_done rfl ?_
        show A _ _ _ _ _ _ _
        refine a_region ?_
        refine rg_put (d := 12) (v := .d (.fl (.int .i64 (k : Int)))) rfl (og rfl (op_move rfl rfl rfl)) ?_
        refine rg_put (d := 13) (v := .d (.fl (.int .i64 (((k : Int) + 1))))) rfl (og rfl (op_bin rfl rfl rfl (fun x y w => b_add64 _ _ _ x y w (by omega)) rfl)) ?_
        refine rg_put (d := 7) (v := .d (.fl (.int .i64 (((k : Int) + 1))))) rfl (og rfl (op_assign rfl rfl rfl)) ?_
        refine rg_done rfl ?_
        have hx : (sEq (ix u k) s) = false := h3
        have hst : ((inO u s k) ++ [(ix u k)]) = inO u s (k + 1) := by simp only [inO, h5, Bool.not_true, Bool.not_false, Bool.false_and, Bool.and_false, Bool.and_self, cond_true, cond_false]
        have hsd : (inD u s k) = inD u s (k + 1) := by simp only [inD, h5, Bool.true_or, Bool.or_true, Bool.or_false, Bool.false_or, Bool.or_self]
        show ∃ i, _ ∧ _ ∧ Imp _ _ _ _ _
        refine ⟨k + 1, ⟨by omega, fun q h => (Nat.lt_succ_iff_lt_or_eq.1 h).elim (hq q) (fun e => by rw [e]; exact hx)⟩, by omega, imp_ren (fun m => bif Nat.beq m 101 then 102 else m) rfl ⟨rfl, rfl, (by first | rfl | exact ci (by omega) | exact ci (by simp) | exact cd (by simp) | simp), (cd (congrArg (fun z => DV.fl (.bool z)) hsd)), rfl, trivial⟩ ⟨(congrArg (fun z => Ob.tr 9 1 (tD rS z)) hst), trivial⟩⟩
      · skip
        have h6 := t_not h4
        refine rg_put (d := 24) (v := .d (.fl (.string s))) rfl (oy rfl rfl rfl h4 (op_move rfl rfl rfl)) ?_
        refine rg_put (d := 25) (v := .d (.sl 1 (List.map rS u))) rfl (oy rfl rfl rfl h4 (op_move rfl rfl rfl)) ?_
        refine rg_put (d := 26) (v := .d (.fl (.int .i64 (k : Int)))) rfl (oy rfl rfl rfl h4 (op_move rfl rfl rfl)) ?_
        refine rg_put (d := 27) (v := .el ((rS (ix u k)))) rfl (oy rfl rfl rfl h4 (s_index rfl Tryz.underlying36 ti9 rfl rfl (by omega) (row_at (by omega)) rfl)) ?_
        refine rg_put (d := 28) (v := .d (.fl (.string (ix u k)))) rfl (oy rfl rfl rfl h4 (op_load_el rfl Tryz.underlying9 rfl rfl rfl rfl)) ?_
        refine rg_put (d := 29) (v := .d (.fl (.bool ((sLt s (ix u k)))))) rfl (oy rfl rfl rfl h4 (op_call rfl Tryz.func36 nm36 rfl (.cons rfl (.d _) (.cons rfl (.d _) .nil)) (befR s (ix u k) hs (hz _ (ix_mem (by omega)))) rfl)) ?_
        refine rg_put (d := 30) (v := .d (.fl (.bool ((sLt s (ix u k)))))) rfl (og rfl (op_pick rfl rfl (by rw [h4]; rfl) rfl)) ?_
        refine rg_done rfl ?_
        refine a_cond rfl (fun h7 => ?_) (fun h7 => ?_)
        · skip
          refine a_rseq ?_
          refine rg_put (d := 31) (v := .ow 101) rfl (og rfl (op_move rfl rfl rfl)) ?_
          refine rg_put (d := 32) (v := .d (.fl (.string s))) rfl (og rfl (op_move rfl rfl rfl)) ?_
          refine rg_put (d := 33) (v := .d (.sl 1 (List.map rS [s]))) rfl (og rfl (of_eff (op_slices rfl Tryz.underlying36 ti9 rfl rfl rfl (by kernel_rfl) (xs := [.fl (.string s)]) rfl rfl (.cons rfl rfl (.d _) rfl rfl rfl .nil) rfl) rfl)) ?_
          refine rg_nam (d := 34) (v := .ow 103) (m := 103) (nw := [(103, .tr 9 1 (tD rS (((inO u s k) ++ [s])))), (101, .no)]) rfl (og rfl (of_eff (s_append_td 103 rfl Tryz.underlying36 ti9 rfl rfl rfl rfl rfl (.d _) (by simp only [List.length_append, List.length_cons, List.length_nil]; omega) rfl) rfl)) rfl ?_
          refine rg_put (d := 5) (v := .ow 103) rfl (og rfl (op_assign rfl rfl rfl)) ?_
          refine rg_done rfl ?_
          refine a_region ?_
          refine rg_put (d := 6) (v := .d (.fl (.bool true))) rfl (og rfl (op_assign rfl rfl rfl)) ?_
          refine rg_done rfl ?_
          show A _ _ _ _ _ _ _
          refine a_region ?_
          refine rg_put (d := 35) (v := .ow 103) rfl (og rfl (op_move rfl rfl rfl)) ?_
          refine rg_put (d := 36) (v := .d (.sl 1 (List.map rS u))) rfl (og rfl (op_move rfl rfl rfl)) ?_
          refine rg_put (d := 37) (v := .d (.fl (.int .i64 (k : Int)))) rfl (og rfl (op_move rfl rfl rfl)) ?_
          refine rg_put (d := 38) (v := .el ((rS (ix u k)))) rfl (og rfl (s_index rfl Tryz.underlying36 ti9 rfl rfl (by omega) (row_at (by omega)) rfl)) ?_
          refine rg_put (d := 39) (v := .d (.fl (.string (ix u k)))) rfl (og rfl (op_load_el rfl Tryz.underlying9 rfl rfl rfl rfl)) ?_
          refine rg_put (d := 40) (v := .d (.sl 1 (List.map rS [(ix u k)]))) rfl (og rfl (of_eff (op_slices rfl Tryz.underlying36 ti9 rfl rfl rfl (by kernel_rfl) (xs := [.fl (.string (ix u k))]) rfl rfl (.cons rfl rfl (.d _) rfl rfl rfl .nil) rfl) rfl)) ?_
          refine rg_nam (d := 41) (v := .ow 104) (m := 104) (nw := [(104, .tr 9 1 (tD rS ((((inO u s k) ++ [s]) ++ [(ix u k)])))), (103, .no)]) rfl (og rfl (of_eff (s_append_td 104 rfl Tryz.underlying36 ti9 rfl rfl rfl rfl rfl (.d _) (by simp only [List.length_append, List.length_cons, List.length_nil]; omega) rfl) rfl)) rfl ?_
          refine rg_put (d := 5) (v := .ow 104) rfl (og rfl (op_assign rfl rfl rfl)) ?_
          refine rg_done rfl ?_
          show A _ _ _ _ _ _ _
          refine a_region ?_
          refine rg_put (d := 12) (v := .d (.fl (.int .i64 (k : Int)))) rfl (og rfl (op_move rfl rfl rfl)) ?_
          refine rg_put (d := 13) (v := .d (.fl (.int .i64 (((k : Int) + 1))))) rfl (og rfl (op_bin rfl rfl rfl (fun x y w => b_add64 _ _ _ x y w (by omega)) rfl)) ?_
          refine rg_put (d := 7) (v := .d (.fl (.int .i64 (((k : Int) + 1))))) rfl (og rfl (op_assign rfl rfl rfl)) ?_
          refine rg_done rfl ?_
          have hx : (sEq (ix u k) s) = false := h3
          have hst : (((inO u s k) ++ [s]) ++ [(ix u k)]) = inO u s (k + 1) := by simp only [inO, h6, h7, Bool.not_true, Bool.not_false, Bool.false_and, Bool.and_false, Bool.and_self, cond_true, cond_false]
          have hsd : true = inD u s (k + 1) := by simp only [inD, h6, h7, Bool.true_or, Bool.or_true, Bool.or_false, Bool.false_or, Bool.or_self]
          show ∃ i, _ ∧ _ ∧ Imp _ _ _ _ _
          refine ⟨k + 1, ⟨by omega, fun q h => (Nat.lt_succ_iff_lt_or_eq.1 h).elim (hq q) (fun e => by rw [e]; exact hx)⟩, by omega, imp_ren (fun m => bif Nat.beq m 101 then 104 else m) rfl ⟨rfl, rfl, (by first | rfl | exact ci (by omega) | exact ci (by simp) | exact cd (by simp) | simp), (cd (congrArg (fun z => DV.fl (.bool z)) hsd)), rfl, trivial⟩ ⟨(congrArg (fun z => Ob.tr 9 1 (tD rS z)) hst), trivial⟩⟩
        · skip
          refine a_skip ?_
          show A _ _ _ _ _ _ _
          refine a_region ?_
          refine rg_put (d := 35) (v := .ow 101) rfl (og rfl (op_move rfl rfl rfl)) ?_
          refine rg_put (d := 36) (v := .d (.sl 1 (List.map rS u))) rfl (og rfl (op_move rfl rfl rfl)) ?_
          refine rg_put (d := 37) (v := .d (.fl (.int .i64 (k : Int)))) rfl (og rfl (op_move rfl rfl rfl)) ?_
          refine rg_put (d := 38) (v := .el ((rS (ix u k)))) rfl (og rfl (s_index rfl Tryz.underlying36 ti9 rfl rfl (by omega) (row_at (by omega)) rfl)) ?_
          refine rg_put (d := 39) (v := .d (.fl (.string (ix u k)))) rfl (og rfl (op_load_el rfl Tryz.underlying9 rfl rfl rfl rfl)) ?_
          refine rg_put (d := 40) (v := .d (.sl 1 (List.map rS [(ix u k)]))) rfl (og rfl (of_eff (op_slices rfl Tryz.underlying36 ti9 rfl rfl rfl (by kernel_rfl) (xs := [.fl (.string (ix u k))]) rfl rfl (.cons rfl rfl (.d _) rfl rfl rfl .nil) rfl) rfl)) ?_
          refine rg_nam (d := 41) (v := .ow 105) (m := 105) (nw := [(105, .tr 9 1 (tD rS (((inO u s k) ++ [(ix u k)])))), (101, .no)]) rfl (og rfl (of_eff (s_append_td 105 rfl Tryz.underlying36 ti9 rfl rfl rfl rfl rfl (.d _) (by simp only [List.length_append, List.length_cons, List.length_nil]; omega) rfl) rfl)) rfl ?_
          refine rg_put (d := 5) (v := .ow 105) rfl (og rfl (op_assign rfl rfl rfl)) ?_
          refine rg_done rfl ?_
          show A _ _ _ _ _ _ _
          refine a_region ?_
          refine rg_put (d := 12) (v := .d (.fl (.int .i64 (k : Int)))) rfl (og rfl (op_move rfl rfl rfl)) ?_
          refine rg_put (d := 13) (v := .d (.fl (.int .i64 (((k : Int) + 1))))) rfl (og rfl (op_bin rfl rfl rfl (fun x y w => b_add64 _ _ _ x y w (by omega)) rfl)) ?_
          refine rg_put (d := 7) (v := .d (.fl (.int .i64 (((k : Int) + 1))))) rfl (og rfl (op_assign rfl rfl rfl)) ?_
          refine rg_done rfl ?_
          have hx : (sEq (ix u k) s) = false := h3
          have hst : ((inO u s k) ++ [(ix u k)]) = inO u s (k + 1) := by simp only [inO, h6, h7, Bool.not_true, Bool.not_false, Bool.false_and, Bool.and_false, Bool.and_self, cond_true, cond_false]
          have hsd : (inD u s k) = inD u s (k + 1) := by simp only [inD, h6, h7, Bool.true_or, Bool.or_true, Bool.or_false, Bool.false_or, Bool.or_self]
          show ∃ i, _ ∧ _ ∧ Imp _ _ _ _ _
          refine ⟨k + 1, ⟨by omega, fun q h => (Nat.lt_succ_iff_lt_or_eq.1 h).elim (hq q) (fun e => by rw [e]; exact hx)⟩, by omega, imp_ren (fun m => bif Nat.beq m 101 then 105 else m) rfl ⟨rfl, rfl, (by first | rfl | exact ci (by omega) | exact ci (by simp) | exact cd (by simp) | simp), (cd (congrArg (fun z => DV.fl (.bool z)) hsd)), rfl, trivial⟩ ⟨(congrArg (fun z => Ob.tr 9 1 (tD rS z)) hst), trivial⟩⟩
  · skip
    have h8 := f_dec h1
    refine a_exit ?_
    show A _ _ _ _ _ _ _
    refine a_seq ?_
    refine a_rseq ?_
    refine rg_put (d := 42) (v := .d (.fl (.bool (inD u s k)))) rfl (og rfl (op_move rfl rfl rfl)) ?_
    refine rg_put (d := 43) (v := .d (.fl (.bool ((!(inD u s k)))))) rfl (og rfl (op_un rfl rfl (u_not _) rfl)) ?_
    refine rg_done rfl ?_
    refine a_cond rfl (fun h9 => ?_) (fun h9 => ?_)
    · skip
      have h10 := t_not h9
      refine a_region ?_
      refine rg_put (d := 44) (v := .ow 101) rfl (og rfl (op_move rfl rfl rfl)) ?_
      refine rg_put (d := 45) (v := .d (.fl (.string s))) rfl (og rfl (op_move rfl rfl rfl)) ?_
      refine rg_put (d := 46) (v := .d (.sl 1 (List.map rS [s]))) rfl (og rfl (of_eff (op_slices rfl Tryz.underlying36 ti9 rfl rfl rfl (by kernel_rfl) (xs := [.fl (.string s)]) rfl rfl (.cons rfl rfl (.d _) rfl rfl rfl .nil) rfl) rfl)) ?_
      refine rg_nam (d := 47) (v := .ow 106) (m := 106) (nw := [(106, .tr 9 1 (tD rS (((inO u s k) ++ [s])))), (101, .no)]) rfl (og rfl (of_eff (s_append_td 106 rfl Tryz.underlying36 ti9 rfl rfl rfl rfl rfl (.d _) (by simp only [List.length_append, List.length_cons, List.length_nil]; omega) rfl) rfl)) rfl ?_
      refine rg_put (d := 5) (v := .ow 106) rfl (og rfl (op_assign rfl rfl rfl)) ?_
      refine rg_done rfl ?_
      show A _ _ _ _ _ _ _
      refine a_rseq ?_
      refine rg_put (d := 48) (v := .ow 106) rfl (og rfl (op_move rfl rfl rfl)) ?_
      refine rg_put (d := 4) (v := .ow 106) rfl (og rfl (op_assign rfl rfl rfl)) ?_
      refine rg_done rfl ?_
      refine a_imp (imp_leakT 4 106 rfl rfl) ?_
      refine a_ret ?_
      show ∃ ds, ResL _ _ _ ds ∧ RV.of ds = _
      refine ⟨[.sl 1 (List.map rS (((inO u s k) ++ [s])))], (.cons (.tmp rfl (.d _)) .nil), ?_⟩
      have hkl : k = u.length := by omega
      rw [show insT u s = (inO u s k ++ [s]) from by unfold insT; rw [any_no (p := fun y => sEq y s) (fun q h => hq q (by omega)), ← hkl, h10]; rfl]; rfl
    · skip
      have h11 := f_not h9
      refine a_skip ?_
      show A _ _ _ _ _ _ _
      refine a_rseq ?_
      refine rg_put (d := 48) (v := .ow 101) rfl (og rfl (op_move rfl rfl rfl)) ?_
      refine rg_put (d := 4) (v := .ow 101) rfl (og rfl (op_assign rfl rfl rfl)) ?_
      refine rg_done rfl ?_
      refine a_imp (imp_leakT 4 101 rfl rfl) ?_
      refine a_ret ?_
      show ∃ ds, ResL _ _ _ ds ∧ RV.of ds = _
      refine ⟨[.sl 1 (List.map rS (inO u s k))], (.cons (.tmp rfl (.d _)) .nil), ?_⟩
      have hkl : k = u.length := by omega
      rw [show insT u s = inO u s k from by unfold insT; rw [any_no (p := fun y => sEq y s) (fun q h => hq q (by omega)), ← hkl, h11]; rfl]; rfl
set_option maxHeartbeats 4000000 in
set_option maxRecDepth 100000 in
theorem sameS (u : List ByteArray) (hu : u.length ≤ 2000) : Ctr Tryz.prog 9 [.sl 1 (List.map rS u), .sl 1 (List.map rS u)] (.d (.fl (.bool true))) := by
  refine ctr (n := 26) (rs := #[.tmp 4]) (L := [(0, .d (.sl 1 (List.map rS u))), (1, .d (.sl 1 (List.map rS u)))]) Tryz.func9 rfl rfl rfl rfl rfl (fun w0 U0 => ?_)
  refine a_rseq ?_
  refine rg_put (d := 4) (v := .d (.fl (.bool false))) rfl (og rfl (op_assign rfl rfl rfl)) ?_
  refine rg_done rfl ?_
  refine a_seq ?_
  refine a_rseq ?_
  refine rg_put (d := 6) (v := .d (.sl 1 (List.map rS u))) rfl (og rfl (op_move rfl rfl rfl)) ?_
  refine rg_put (d := 7) (v := .d (.fl (.int .i64 (u.length : Int)))) rfl (og rfl (s_len rfl Tryz.underlying36 rfl rfl)) ?_
  refine rg_put (d := 8) (v := .d (.sl 1 (List.map rS u))) rfl (og rfl (op_move rfl rfl rfl)) ?_
  refine rg_put (d := 9) (v := .d (.fl (.int .i64 (u.length : Int)))) rfl (og rfl (s_len rfl Tryz.underlying36 rfl rfl)) ?_
  refine rg_put (d := 10) (v := .d (.fl (.bool (((u.length : Int) != (u.length : Int)))))) rfl (og rfl (op_bin rfl rfl rfl (b_neq _ _ _ _) rfl)) ?_
  refine rg_done rfl ?_
  refine a_condF rfl (by rw [bne_eq_false_iff_eq]) ?_
  refine a_skip ?_
  show A _ _ _ _ _ _ _
  refine a_seq ?_
  refine a_rseq ?_
  refine rg_put (d := 5) (v := .d (.fl (.int .i64 0))) rfl (og rfl (op_assign rfl rfl rfl)) ?_
  refine rg_done rfl ?_
  refine a_block ?_
  refine a_loop (ι := Nat) (fun k => SS [(0, .d (.sl 1 (List.map rS u))), (1, .d (.sl 1 (List.map rS u))), (10, .d (.fl (.bool (((u.length : Int) != (u.length : Int)))))), (5, .d (.fl (.int .i64 (k : Int))))] []) (fun k => k ≤ u.length) (fun k => u.length - k) 0 (by omega) (imp_forget rfl ⟨rfl, rfl, rfl, (by first | rfl | exact ci (by omega) | exact ci (by simp) | exact cd (by simp) | simp), trivial⟩ trivial) (fun k hok => ?_)
  have hk := hok
  refine a_seq ?_
  refine a_rseq ?_
  refine rg_put (d := 11) (v := .d (.fl (.int .i64 (k : Int)))) rfl (og rfl (op_move rfl rfl rfl)) ?_
  refine rg_put (d := 12) (v := .d (.sl 1 (List.map rS u))) rfl (og rfl (op_move rfl rfl rfl)) ?_
  refine rg_put (d := 13) (v := .d (.fl (.int .i64 (u.length : Int)))) rfl (og rfl (s_len rfl Tryz.underlying36 rfl rfl)) ?_
  refine rg_put (d := 14) (v := .d (.fl (.bool ((decide ((k : Int) < (u.length : Int))))))) rfl (og rfl (op_bin rfl rfl rfl (b_lss _ _ _ _) rfl)) ?_
  refine rg_done rfl ?_
  refine a_cond rfl (fun h1 => ?_) (fun h1 => ?_)
  · skip
    have h2 := t_dec h1
    refine a_skip ?_
    show A _ _ _ _ _ _ _
    refine a_seq ?_
    refine a_block ?_
    refine a_dseq (by kernel_rfl) ?_
    refine dr_put (d := 17) (v := .d (.sl 1 (List.map rS u))) rfl (og rfl (op_move rfl rfl rfl)) ?_
    refine dr_put (d := 18) (v := .d (.fl (.int .i64 (k : Int)))) rfl (og rfl (op_move rfl rfl rfl)) ?_
    refine dr_put (d := 19) (v := .el ((rS (ix u k)))) rfl (og rfl (s_index rfl Tryz.underlying36 ti9 rfl rfl (by omega) (row_at (by omega)) rfl)) ?_
    refine dr_put (d := 20) (v := .d (.fl (.string (ix u k)))) rfl (og rfl (op_load_el rfl Tryz.underlying9 rfl rfl rfl rfl)) ?_
    refine dr_put (d := 21) (v := .d (.sl 1 (List.map rS u))) rfl (og rfl (op_move rfl rfl rfl)) ?_
    refine dr_put (d := 22) (v := .d (.fl (.int .i64 (k : Int)))) rfl (og rfl (op_move rfl rfl rfl)) ?_
    refine dr_put (d := 23) (v := .el ((rS (ix u k)))) rfl (og rfl (s_index rfl Tryz.underlying36 ti9 rfl rfl (by omega) (row_at (by omega)) rfl)) ?_
    refine dr_put (d := 24) (v := .d (.fl (.string (ix u k)))) rfl (og rfl (op_load_el rfl Tryz.underlying9 rfl rfl rfl rfl)) ?_
    refine dr_put (d := 25) (v := .d (.fl (.bool ((!(sEq (ix u k) (ix u k))))))) rfl (og rfl (op_bin rfl rfl rfl (b_sne _ _ _) rfl)) ?_
    refine dr_done rfl (by kernel_rfl) (by kernel_rfl) ?_
    refine a_condF rfl (not_f (by simp [sEq])) ?_
    refine a_skip ?_
    show A _ _ _ _ _ _ _
    refine a_region ?_
    refine rg_put (d := 15) (v := .d (.fl (.int .i64 (k : Int)))) rfl (og rfl (op_move rfl rfl rfl)) ?_
    refine rg_put (d := 16) (v := .d (.fl (.int .i64 (((k : Int) + 1))))) rfl (og rfl (op_bin rfl rfl rfl (fun x y w => b_add64 _ _ _ x y w (by omega)) rfl)) ?_
    refine rg_put (d := 5) (v := .d (.fl (.int .i64 (((k : Int) + 1))))) rfl (og rfl (op_assign rfl rfl rfl)) ?_
    refine rg_done rfl ?_
    show ∃ i, _ ∧ _ ∧ Imp _ _ _ _ _
    refine ⟨k + 1, (by omega), by omega, imp_forget rfl ⟨rfl, rfl, rfl, (by first | rfl | exact ci (by omega) | exact ci (by simp) | exact cd (by simp) | simp), trivial⟩ trivial⟩
  · skip
    have h3 := f_dec h1
    refine a_exit ?_
    show A _ _ _ _ _ _ _
    refine a_rseq ?_
    refine rg_put (d := 4) (v := .d (.fl (.bool true))) rfl (og rfl (op_assign rfl rfl rfl)) ?_
    refine rg_done rfl ?_
    refine a_ret ?_
    show ∃ ds, ResL _ _ _ ds ∧ RV.of ds = _
    refine ⟨[.fl (.bool true)], (.cons (.tmp rfl (.d _)) .nil), ?_⟩
    rfl
set_option maxHeartbeats 4000000 in
set_option maxRecDepth 100000 in
theorem valid_c (t : Tpg) : Ctr Tryz.prog 13 [.ag (eTpg t)] (.d (.ag (eTpg (vT t)))) := by
  refine ctr (n := 8) (rs := #[.cell 2 28]) (L := [(0, .d (.ag (eTpg t)))]) Tryz.func13 rfl rfl rfl rfl rfl (fun w0 U0 => ?_)
  refine a_rseq ?_
  refine rg_nam (d := 1) (v := .pt 101 0) (m := 101) (nw := [(101, .bx 28 (eTpg t))]) rfl (og rfl (of_eff (op_box 101 rfl rfl rfl rfl) rfl)) rfl ?_
  refine rg_nam (d := 2) (v := .pt 102 0) (m := 102) (nw := [(102, .bx 28 [.fl (.slice none 0 0), .fl (.slice none 0 0), .fl (.slice none 0 0)])]) rfl (og rfl (of_eff (s_alloc 102 rfl ti28 (by kernel_rfl) rfl) rfl)) rfl ?_
  refine rg_done rfl ?_
  refine a_seq ?_
  refine a_rseq ?_
  refine rg_put (d := 3) (v := .d (.ag (eTpg t))) rfl (og rfl (of_eff (s_load_pts rfl Tryz.underlying28 rfl ti28 rfl rfl rfl rfl) rfl)) ?_
  refine rg_put (d := 4) (v := .d (.fl (.int .i64 (tck t)))) rfl (og rfl (op_call rfl Tryz.func24 nm24 rfl (.cons rfl (.d _) .nil) (tck_c t) rfl)) ?_
  refine rg_put (d := 5) (v := .d (.fl (.bool (((tck t) != 0))))) rfl (og rfl (op_bin rfl rfl rfl (b_neq _ _ _ _) rfl)) ?_
  refine rg_done rfl ?_
  refine a_cond rfl (fun h1 => ?_) (fun h1 => ?_)
  · skip
    have h2 := t_bne h1
    refine a_rseq ?_
    refine rg_put (d := 6) (v := .d (.ag [.fl (.slice none 0 0), .fl (.slice none 0 0), .fl (.slice none 0 0)])) rfl (og rfl (of_eff (op_build rfl Tryz.underlying28 ti28 rfl (by kernel_rfl) (by kernel_rfl) (pl := #[(0, 2), (2, 1)]) (by kernel_rfl) .nil rfl) rfl)) ?_
    refine rg_sto (nw := [(102, .bx 28 [.fl (.slice none 0 0), .fl (.slice none 0 0), .fl (.slice none 0 0)])]) rfl (og rfl (of_eff (s_store rfl rfl ti28 rfl rfl rfl rfl rfl rfl) rfl)) ?_
    refine rg_done rfl ?_
    refine a_ret ?_
    show ∃ ds, ResL _ _ _ ds ∧ RV.of ds = _
    refine ⟨[.ag [.sl 3 (List.map ePnt []), .sl 4 (List.map eLnk []), .sl 3 (List.map eSys [])]], (.cons (.cellT rfl rfl Tryz.underlying28 rfl ti28 rfl (Cv.ag (xs := [.fl (.slice none 0 0), .fl (.slice none 0 0), .fl (.slice none 0 0)]) (ys := [.sl 3 (List.map ePnt []), .sl 4 (List.map eLnk []), .sl 3 (List.map eSys [])]) ⟨Cv.nil _, Cv.nil _, Cv.nil _, trivial⟩)) .nil), ?_⟩
    rw [show vT t = _ from if_neg (t_bne h1)]; rfl
  · skip
    have h3 := f_bne h1
    refine a_skip ?_
    show A _ _ _ _ _ _ _
    refine a_rseq ?_
    refine rg_put (d := 7) (v := .d (.ag (eTpg t))) rfl (og rfl (of_eff (s_load_pts rfl Tryz.underlying28 rfl ti28 rfl rfl rfl rfl) rfl)) ?_
    refine rg_sto (nw := [(102, .bx 28 (eTpg t))]) rfl (og rfl (of_eff (s_store rfl rfl ti28 rfl rfl rfl rfl rfl rfl) rfl)) ?_
    refine rg_done rfl ?_
    refine a_ret ?_
    show ∃ ds, ResL _ _ _ ds ∧ RV.of ds = _
    refine ⟨[.ag [.sl 3 (List.map ePnt t.net.pts), .sl 4 (List.map eLnk t.net.lks), .sl 3 (List.map eSys t.syss)]], (.cons (.cellT rfl rfl Tryz.underlying28 rfl ti28 rfl (Cv.ag (xs := [.sl 3 (List.map ePnt t.net.pts), .sl 4 (List.map eLnk t.net.lks), .sl 3 (List.map eSys t.syss)]) (ys := [.sl 3 (List.map ePnt t.net.pts), .sl 4 (List.map eLnk t.net.lks), .sl 3 (List.map eSys t.syss)]) ⟨Cv.refl _, Cv.refl _, Cv.refl _, trivial⟩)) .nil), ?_⟩
    rw [show vT t = _ from if_pos (f_bne h1)]; rfl
set_option maxHeartbeats 4000000 in
set_option maxRecDepth 100000 in
theorem clP (a : Pnt) (s : ByteArray) : Ctr Tryz.prog 28 [.ag (ePnt a), .el [.fl (.string s)]] (.d (.fl (.bool (sEq a.name s)))) := by
  refine ctr (n := 8) (rs := #[.tmp 3]) (L := [(0, .d (.ag (ePnt a))), (1, .el [.fl (.string s)])]) Tryz.func28 rfl rfl rfl rfl rfl (fun w0 U0 => ?_)
  refine a_rseq ?_
  refine rg_nam (d := 2) (v := .pt 101 0) (m := 101) (nw := [(101, .bx 42 (ePnt a))]) rfl (og rfl (of_eff (op_box 101 rfl rfl rfl rfl) rfl)) rfl ?_
  refine rg_put (d := 3) (v := .d (.fl (.bool false))) rfl (og rfl (op_assign rfl rfl rfl)) ?_
  refine rg_done rfl ?_
  refine a_rseq ?_
  refine rg_put (d := 4) (v := .pt 101 0) rfl (og rfl (of_eff (s_field_pt rfl Tryz.underlying42 rfl ti9 rfl rfl rfl) rfl)) ?_
  refine rg_put (d := 5) (v := .d (.fl (.string a.name))) rfl (og rfl (op_load_pt rfl Tryz.underlying9 rfl rfl rfl rfl rfl)) ?_
  refine rg_put (d := 6) (v := .d (.fl (.string s))) rfl (og rfl (op_load_el rfl Tryz.underlying9 rfl rfl rfl rfl)) ?_
  refine rg_put (d := 7) (v := .d (.fl (.bool (sEq a.name s)))) rfl (og rfl (op_bin rfl rfl rfl (b_seq _ _ _) rfl)) ?_
  refine rg_put (d := 3) (v := .d (.fl (.bool (sEq a.name s)))) rfl (og rfl (op_assign rfl rfl rfl)) ?_
  refine rg_done rfl ?_
  refine a_ret ?_
  show ∃ ds, ResL _ _ _ ds ∧ RV.of ds = _
  refine ⟨[.fl (.bool (sEq a.name s))], (.cons (.tmp rfl (.d _)) .nil), ?_⟩
  rfl
set_option maxHeartbeats 4000000 in
set_option maxRecDepth 100000 in
theorem ixP (l : List Pnt) (s : ByteArray) (hl : l.length ≤ 1000) : Ctr Tryz.prog 27 [.sl 3 (List.map ePnt l), .fn 28 [.el [.fl (.string s)]]] (.d (.fl (.int .i64 (nmI l s)))) := by
  refine ctr (n := 19) (rs := #[.tmp 4]) (L := [(0, .d (.sl 3 (List.map ePnt l))), (1, .d (.fn 28 [.el [.fl (.string s)]]))]) Tryz.func27 rfl rfl rfl rfl rfl (fun w0 U0 => ?_)
  refine a_rseq ?_
  refine rg_put (d := 4) (v := .d (.fl (.int .i64 0))) rfl (og rfl (op_assign rfl rfl rfl)) ?_
  refine rg_done rfl ?_
  refine a_seq ?_
  refine a_rseq ?_
  refine rg_put (d := 6) (v := .d (.sl 3 (List.map ePnt l))) rfl (og rfl (op_move rfl rfl rfl)) ?_
  refine rg_put (d := 7) (v := .d (.fl (.int .i64 (l.length : Int)))) rfl (og rfl (s_len rfl Tryz.underlying22 rfl rfl)) ?_
  refine rg_put (d := 8) (v := .d (.fl (.int .i64 0))) rfl (og rfl (op_move rfl rfl rfl)) ?_
  refine rg_done rfl ?_
  refine a_block ?_
  refine a_loop (ι := Nat) (fun k => SS [(0, .d (.sl 3 (List.map ePnt l))), (1, .d (.fn 28 [.el [.fl (.string s)]])), (7, .d (.fl (.int .i64 (l.length : Int)))), (8, .d (.fl (.int .i64 (k : Int))))] []) (fun k => k ≤ l.length ∧ ∀ q, q < k → (sEq (ix l q).name s) = false) (fun k => l.length - k) 0 (⟨by omega, fun q h => by omega⟩) (imp_forget rfl ⟨rfl, rfl, rfl, (by first | rfl | exact ci (by omega) | exact ci (by simp) | exact cd (by simp) | simp), trivial⟩ trivial) (fun k hok => ?_)
  obtain ⟨hkk, hq⟩ := hok
  refine a_rseq ?_
  refine rg_put (d := 9) (v := .d (.fl (.bool ((decide ((k : Int) < (l.length : Int))))))) rfl (og rfl (op_bin rfl rfl rfl (b_lss _ _ _ _) rfl)) ?_
  refine rg_done rfl ?_
  refine a_seq ?_
  refine a_cond rfl (fun h1 => ?_) (fun h1 => ?_)
  · skip
    have h2 := t_dec h1
    refine a_skip ?_
    show A _ _ _ _ _ _ _
    refine a_seq ?_
    refine a_block ?_
    refine a_rseq ?_
    refine rg_put (d := 10) (v := .d (.fl (.int .i64 (k : Int)))) rfl (og rfl (op_move rfl rfl rfl)) ?_
    refine rg_put (d := 5) (v := .d (.fl (.int .i64 (k : Int)))) rfl (og rfl (op_assign rfl rfl rfl)) ?_
    refine rg_done rfl ?_
    refine a_rseq ?_
    refine rg_put (d := 11) (v := .d (.fn 28 [.el [.fl (.string s)]])) rfl (og rfl (op_move rfl rfl rfl)) ?_
    refine rg_put (d := 12) (v := .d (.sl 3 (List.map ePnt l))) rfl (og rfl (op_move rfl rfl rfl)) ?_
    refine rg_put (d := 13) (v := .d (.fl (.int .i64 (k : Int)))) rfl (og rfl (op_move rfl rfl rfl)) ?_
    refine rg_put (d := 14) (v := .el ((ePnt (ix l k)))) rfl (og rfl (s_index rfl Tryz.underlying22 ti42 rfl rfl (by omega) (row_at (by omega)) rfl)) ?_
    refine rg_put (d := 15) (v := .d (.ag (ePnt (ix l k)))) rfl (og rfl (of_eff (s_load_els rfl Tryz.underlying42 rfl ti42 rfl rfl rfl) rfl)) ?_
    refine rg_put (d := 16) (v := .d (.fl (.bool ((sEq (ix l k).name s))))) rfl (og rfl (op_callV rfl rfl ⟨_, Tryz.func28, nm28, rfl⟩ (.cons rfl (.d _) .nil) (clP (ix l k) s) rfl)) ?_
    refine rg_done rfl ?_
    refine a_cond rfl (fun h3 => ?_) (fun h3 => ?_)
    · skip
      refine a_rseq ?_
      refine rg_put (d := 17) (v := .d (.fl (.int .i64 (k : Int)))) rfl (og rfl (op_move rfl rfl rfl)) ?_
      refine rg_put (d := 4) (v := .d (.fl (.int .i64 (k : Int)))) rfl (og rfl (op_assign rfl rfl rfl)) ?_
      refine rg_done rfl ?_
      refine a_ret ?_
      show ∃ ds, ResL _ _ _ ds ∧ RV.of ds = _
      refine ⟨[.fl (.int .i64 (k : Int))], (.cons (.tmp rfl (.d _)) .nil), ?_⟩
      have hu : nmI l s = (k : Int) := idx_at (by omega) hq h3
      rw [hu]; rfl
    · skip
      refine a_skip ?_
      show A _ _ _ _ _ _ _
      refine a_region ?_
      refine rg_put (d := 18) (v := .d (.fl (.int .i64 (((k : Int) + 1))))) rfl (og rfl (op_bin rfl rfl rfl (fun x y w => b_add64 _ _ _ x y w (by omega)) rfl)) ?_
      refine rg_put (d := 8) (v := .d (.fl (.int .i64 (((k : Int) + 1))))) rfl (og rfl (op_move rfl rfl rfl)) ?_
      refine rg_done rfl ?_
      have hx : (sEq (ix l k).name s) = false := h3
      show ∃ i, _ ∧ _ ∧ Imp _ _ _ _ _
      refine ⟨k + 1, ⟨by omega, fun q h => (Nat.lt_succ_iff_lt_or_eq.1 h).elim (hq q) (fun e => by rw [e]; exact hx)⟩, by omega, imp_forget rfl ⟨rfl, rfl, rfl, (by first | rfl | exact ci (by omega) | exact ci (by simp) | exact cd (by simp) | simp), trivial⟩ trivial⟩
  · skip
    have h4 := f_dec h1
    refine a_exit ?_
    show A _ _ _ _ _ _ _
    refine a_rseq ?_
    refine rg_put (d := 4) (v := .d (.fl (.int .i64 (-1)))) rfl (og rfl (op_assign rfl rfl rfl)) ?_
    refine rg_done rfl ?_
    refine a_ret ?_
    show ∃ ds, ResL _ _ _ ds ∧ RV.of ds = _
    refine ⟨[.fl (.int .i64 (-1))], (.cons (.tmp rfl (.d _)) .nil), ?_⟩
    have hu : nmI l s = -1 := idx_no (fun q h => hq q (by omega))
    rw [hu]; rfl
set_option maxHeartbeats 4000000 in
set_option maxRecDepth 100000 in
theorem pntC (t : Tpg) (s : ByteArray) (hl : t.net.pts.length ≤ 1000) : Ctr Tryz.prog 14 [.ag (eTpg t), .fl (.string s)] (.tu [.ag (ePnt (fN t.net.pts s).1), .fl (.bool (fN t.net.pts s).2)]) := by
  refine ctr (n := 21) (rs := #[.cell 4 42, .tmp 5]) (L := [(0, .d (.ag (eTpg t))), (1, .d (.fl (.string s)))]) Tryz.func14 rfl rfl rfl rfl rfl (fun w0 U0 => ?_)
  refine a_rseq ?_
  refine rg_nam (d := 2) (v := .pt 101 0) (m := 101) (nw := [(101, .bx 28 (eTpg t))]) rfl (og rfl (of_eff (op_box 101 rfl rfl rfl rfl) rfl)) rfl ?_
  refine rg_nam (d := 3) (v := .pt 102 0) (m := 102) (nw := [(102, .bx 9 [.fl (.string s)])]) rfl (og rfl (of_eff (op_box 102 rfl rfl rfl rfl) rfl)) rfl ?_
  refine rg_nam (d := 4) (v := .pt 103 0) (m := 103) (nw := [(103, .bx 42 ([.fl (.string (⟨#[]⟩)), .fl (.int .i64 0), .fl (.string (⟨#[]⟩))]))]) rfl (og rfl (of_eff (s_alloc 103 rfl ti42 (by kernel_rfl) rfl) rfl)) rfl ?_
  refine rg_put (d := 5) (v := .d (.fl (.bool false))) rfl (og rfl (op_assign rfl rfl rfl)) ?_
  refine rg_done rfl ?_
  refine a_rseq ?_
  refine rg_imp (imp_freeze 3 102 rfl rfl) ?_
  refine rg_put (d := 7) (v := .pt 101 0) rfl (og rfl (of_eff (s_field_pt rfl Tryz.underlying28 rfl ti25 rfl rfl rfl) rfl)) ?_
  refine rg_put (d := 8) (v := .pt 101 0) rfl (og rfl (of_eff (s_field_pt rfl Tryz.underlying25 rfl ti22 rfl rfl rfl) rfl)) ?_
  refine rg_put (d := 9) (v := .d (.sl 3 (List.map ePnt t.net.pts))) rfl (og rfl (op_load_pt rfl Tryz.underlying22 rfl rfl rfl rfl rfl)) ?_
  refine rg_put (d := 10) (v := .d (.fn 28 [.el [.fl (.string s)]])) rfl (og rfl (op_mkfn rfl (.cons rfl .nil) rfl)) ?_
  refine rg_put (d := 11) (v := .d (.fl (.int .i64 (nmI t.net.pts s)))) rfl (og rfl (op_call rfl Tryz.func27 nm27 rfl (.cons rfl (.d _) (.cons rfl (.d _) .nil)) (ixP t.net.pts s (by omega)) rfl)) ?_
  refine rg_put (d := 6) (v := .d (.fl (.int .i64 (nmI t.net.pts s)))) rfl (og rfl (op_assign rfl rfl rfl)) ?_
  refine rg_done rfl ?_
  refine a_seq ?_
  refine a_rseq ?_
  refine rg_put (d := 12) (v := .d (.fl (.int .i64 (nmI t.net.pts s)))) rfl (og rfl (op_move rfl rfl rfl)) ?_
  refine rg_put (d := 13) (v := .d (.fl (.bool ((decide ((nmI t.net.pts s) < 0)))))) rfl (og rfl (op_bin rfl rfl rfl (b_lss _ _ _ _) rfl)) ?_
  refine rg_done rfl ?_
  refine a_cond rfl (fun h1 => ?_) (fun h1 => ?_)
  · skip
    have h2 := t_dec h1
    refine a_rseq ?_
    refine rg_put (d := 14) (v := .d (.ag (ePnt ((Pnt.mk (⟨#[]⟩) 0 (⟨#[]⟩)))))) rfl (og rfl (of_eff (op_build rfl Tryz.underlying42 ti42 rfl (by kernel_rfl) (by kernel_rfl) (pl := #[(0, 1), (1, 1), (2, 1)]) (by kernel_rfl) .nil rfl) rfl)) ?_
    refine rg_sto (nw := [(103, .bx 42 ((ePnt ((Pnt.mk (⟨#[]⟩) 0 (⟨#[]⟩))))))]) rfl (og rfl (of_eff (s_store rfl rfl ti42 rfl rfl rfl rfl rfl rfl) rfl)) ?_
    refine rg_put (d := 5) (v := .d (.fl (.bool false))) rfl (og rfl (op_assign rfl rfl rfl)) ?_
    refine rg_done rfl ?_
    refine a_ret ?_
    show ∃ ds, ResL _ _ _ ds ∧ RV.of ds = _
    refine ⟨[.ag [.fl (.string (((Pnt.mk (⟨#[]⟩) 0 (⟨#[]⟩))).name)), .fl (.int .i64 (((Pnt.mk (⟨#[]⟩) 0 (⟨#[]⟩))).kind)), .fl (.string (((Pnt.mk (⟨#[]⟩) 0 (⟨#[]⟩))).sys))], .fl (.bool false)], (.cons (.cellT rfl rfl Tryz.underlying42 rfl ti42 rfl (Cv.ag (xs := [.fl (.string (((Pnt.mk (⟨#[]⟩) 0 (⟨#[]⟩))).name)), .fl (.int .i64 (((Pnt.mk (⟨#[]⟩) 0 (⟨#[]⟩))).kind)), .fl (.string (((Pnt.mk (⟨#[]⟩) 0 (⟨#[]⟩))).sys))]) (ys := [.fl (.string (((Pnt.mk (⟨#[]⟩) 0 (⟨#[]⟩))).name)), .fl (.int .i64 (((Pnt.mk (⟨#[]⟩) 0 (⟨#[]⟩))).kind)), .fl (.string (((Pnt.mk (⟨#[]⟩) 0 (⟨#[]⟩))).sys))]) ⟨Cv.refl _, Cv.refl _, Cv.refl _, trivial⟩)) (.cons (.tmp rfl (.d _)) .nil)), ?_⟩
    rw [fN_neg (of_decide_eq_true h1)]; rfl
  · skip
    have h3 := f_dec h1
    refine a_skip ?_
    show A _ _ _ _ _ _ _
    refine a_rseq ?_
    obtain ⟨ha0, ha1, hat⟩ := fN_at (of_decide_eq_false h1)
    refine rg_put (d := 15) (v := .pt 101 0) rfl (og rfl (of_eff (s_field_pt rfl Tryz.underlying28 rfl ti25 rfl rfl rfl) rfl)) ?_
    refine rg_put (d := 16) (v := .pt 101 0) rfl (og rfl (of_eff (s_field_pt rfl Tryz.underlying25 rfl ti22 rfl rfl rfl) rfl)) ?_
    refine rg_put (d := 17) (v := .d (.sl 3 (List.map ePnt t.net.pts))) rfl (og rfl (op_load_pt rfl Tryz.underlying22 rfl rfl rfl rfl rfl)) ?_
    refine rg_put (d := 18) (v := .d (.fl (.int .i64 (nmI t.net.pts s)))) rfl (og rfl (op_move rfl rfl rfl)) ?_
    refine rg_put (d := 19) (v := .el ((ePnt ((ix t.net.pts ((nmI t.net.pts s)).toNat))))) rfl (og rfl (s_index rfl Tryz.underlying22 ti42 rfl rfl (by omega) (row_atI (by omega) (by omega)) rfl)) ?_
    refine rg_put (d := 20) (v := .d (.ag (ePnt (((ix t.net.pts ((nmI t.net.pts s)).toNat)))))) rfl (og rfl (of_eff (s_load_els rfl Tryz.underlying42 rfl ti42 rfl rfl rfl) rfl)) ?_
    refine rg_sto (nw := [(103, .bx 42 ((ePnt (((ix t.net.pts ((nmI t.net.pts s)).toNat))))))]) rfl (og rfl (of_eff (s_store rfl rfl ti42 rfl rfl rfl rfl rfl rfl) rfl)) ?_
    refine rg_put (d := 5) (v := .d (.fl (.bool true))) rfl (og rfl (op_assign rfl rfl rfl)) ?_
    refine rg_done rfl ?_
    refine a_ret ?_
    show ∃ ds, ResL _ _ _ ds ∧ RV.of ds = _
    refine ⟨[.ag [.fl (.string ((((ix t.net.pts ((nmI t.net.pts s)).toNat))).name)), .fl (.int .i64 ((((ix t.net.pts ((nmI t.net.pts s)).toNat))).kind)), .fl (.string ((((ix t.net.pts ((nmI t.net.pts s)).toNat))).sys))], .fl (.bool true)], (.cons (.cellT rfl rfl Tryz.underlying42 rfl ti42 rfl (Cv.ag (xs := [.fl (.string ((((ix t.net.pts ((nmI t.net.pts s)).toNat))).name)), .fl (.int .i64 ((((ix t.net.pts ((nmI t.net.pts s)).toNat))).kind)), .fl (.string ((((ix t.net.pts ((nmI t.net.pts s)).toNat))).sys))]) (ys := [.fl (.string ((((ix t.net.pts ((nmI t.net.pts s)).toNat))).name)), .fl (.int .i64 ((((ix t.net.pts ((nmI t.net.pts s)).toNat))).kind)), .fl (.string ((((ix t.net.pts ((nmI t.net.pts s)).toNat))).sys))]) ⟨Cv.refl _, Cv.refl _, Cv.refl _, trivial⟩)) (.cons (.tmp rfl (.d _)) .nil)), ?_⟩
    rw [hat]; rfl
set_option maxHeartbeats 4000000 in
set_option maxRecDepth 100000 in
theorem clS (a : Sys) (s : ByteArray) : Ctr Tryz.prog 30 [.ag (eSys a), .el [.fl (.string s)]] (.d (.fl (.bool (sEq a.name s)))) := by
  refine ctr (n := 8) (rs := #[.tmp 3]) (L := [(0, .d (.ag (eSys a))), (1, .el [.fl (.string s)])]) Tryz.func30 rfl rfl rfl rfl rfl (fun w0 U0 => ?_)
  refine a_rseq ?_
  refine rg_nam (d := 2) (v := .pt 101 0) (m := 101) (nw := [(101, .bx 31 (eSys a))]) rfl (og rfl (of_eff (op_box 101 rfl rfl rfl rfl) rfl)) rfl ?_
  refine rg_put (d := 3) (v := .d (.fl (.bool false))) rfl (og rfl (op_assign rfl rfl rfl)) ?_
  refine rg_done rfl ?_
  refine a_rseq ?_
  refine rg_put (d := 4) (v := .pt 101 0) rfl (og rfl (of_eff (s_field_pt rfl Tryz.underlying31 rfl ti9 rfl rfl rfl) rfl)) ?_
  refine rg_put (d := 5) (v := .d (.fl (.string a.name))) rfl (og rfl (op_load_pt rfl Tryz.underlying9 rfl rfl rfl rfl rfl)) ?_
  refine rg_put (d := 6) (v := .d (.fl (.string s))) rfl (og rfl (op_load_el rfl Tryz.underlying9 rfl rfl rfl rfl)) ?_
  refine rg_put (d := 7) (v := .d (.fl (.bool (sEq a.name s)))) rfl (og rfl (op_bin rfl rfl rfl (b_seq _ _ _) rfl)) ?_
  refine rg_put (d := 3) (v := .d (.fl (.bool (sEq a.name s)))) rfl (og rfl (op_assign rfl rfl rfl)) ?_
  refine rg_done rfl ?_
  refine a_ret ?_
  show ∃ ds, ResL _ _ _ ds ∧ RV.of ds = _
  refine ⟨[.fl (.bool (sEq a.name s))], (.cons (.tmp rfl (.d _)) .nil), ?_⟩
  rfl
set_option maxHeartbeats 4000000 in
set_option maxRecDepth 100000 in
theorem ixS (l : List Sys) (s : ByteArray) (hl : l.length ≤ 1000) : Ctr Tryz.prog 29 [.sl 3 (List.map eSys l), .fn 30 [.el [.fl (.string s)]]] (.d (.fl (.int .i64 (nmJ l s)))) := by
  refine ctr (n := 19) (rs := #[.tmp 4]) (L := [(0, .d (.sl 3 (List.map eSys l))), (1, .d (.fn 30 [.el [.fl (.string s)]]))]) Tryz.func29 rfl rfl rfl rfl rfl (fun w0 U0 => ?_)
  refine a_rseq ?_
  refine rg_put (d := 4) (v := .d (.fl (.int .i64 0))) rfl (og rfl (op_assign rfl rfl rfl)) ?_
  refine rg_done rfl ?_
  refine a_seq ?_
  refine a_rseq ?_
  refine rg_put (d := 6) (v := .d (.sl 3 (List.map eSys l))) rfl (og rfl (op_move rfl rfl rfl)) ?_
  refine rg_put (d := 7) (v := .d (.fl (.int .i64 (l.length : Int)))) rfl (og rfl (s_len rfl Tryz.underlying26 rfl rfl)) ?_
  refine rg_put (d := 8) (v := .d (.fl (.int .i64 0))) rfl (og rfl (op_move rfl rfl rfl)) ?_
  refine rg_done rfl ?_
  refine a_block ?_
  refine a_loop (ι := Nat) (fun k => SS [(0, .d (.sl 3 (List.map eSys l))), (1, .d (.fn 30 [.el [.fl (.string s)]])), (7, .d (.fl (.int .i64 (l.length : Int)))), (8, .d (.fl (.int .i64 (k : Int))))] []) (fun k => k ≤ l.length ∧ ∀ q, q < k → (sEq (ix l q).name s) = false) (fun k => l.length - k) 0 (⟨by omega, fun q h => by omega⟩) (imp_forget rfl ⟨rfl, rfl, rfl, (by first | rfl | exact ci (by omega) | exact ci (by simp) | exact cd (by simp) | simp), trivial⟩ trivial) (fun k hok => ?_)
  obtain ⟨hkk, hq⟩ := hok
  refine a_rseq ?_
  refine rg_put (d := 9) (v := .d (.fl (.bool ((decide ((k : Int) < (l.length : Int))))))) rfl (og rfl (op_bin rfl rfl rfl (b_lss _ _ _ _) rfl)) ?_
  refine rg_done rfl ?_
  refine a_seq ?_
  refine a_cond rfl (fun h1 => ?_) (fun h1 => ?_)
  · skip
    have h2 := t_dec h1
    refine a_skip ?_
    show A _ _ _ _ _ _ _
    refine a_seq ?_
    refine a_block ?_
    refine a_rseq ?_
    refine rg_put (d := 10) (v := .d (.fl (.int .i64 (k : Int)))) rfl (og rfl (op_move rfl rfl rfl)) ?_
    refine rg_put (d := 5) (v := .d (.fl (.int .i64 (k : Int)))) rfl (og rfl (op_assign rfl rfl rfl)) ?_
    refine rg_done rfl ?_
    refine a_rseq ?_
    refine rg_put (d := 11) (v := .d (.fn 30 [.el [.fl (.string s)]])) rfl (og rfl (op_move rfl rfl rfl)) ?_
    refine rg_put (d := 12) (v := .d (.sl 3 (List.map eSys l))) rfl (og rfl (op_move rfl rfl rfl)) ?_
    refine rg_put (d := 13) (v := .d (.fl (.int .i64 (k : Int)))) rfl (og rfl (op_move rfl rfl rfl)) ?_
    refine rg_put (d := 14) (v := .el ((eSys (ix l k)))) rfl (og rfl (s_index rfl Tryz.underlying26 ti31 rfl rfl (by omega) (row_at (by omega)) rfl)) ?_
    refine rg_put (d := 15) (v := .d (.ag (eSys (ix l k)))) rfl (og rfl (of_eff (s_load_els rfl Tryz.underlying31 rfl ti31 rfl rfl rfl) rfl)) ?_
    refine rg_put (d := 16) (v := .d (.fl (.bool ((sEq (ix l k).name s))))) rfl (og rfl (op_callV rfl rfl ⟨_, Tryz.func30, nm30, rfl⟩ (.cons rfl (.d _) .nil) (clS (ix l k) s) rfl)) ?_
    refine rg_done rfl ?_
    refine a_cond rfl (fun h3 => ?_) (fun h3 => ?_)
    · skip
      refine a_rseq ?_
      refine rg_put (d := 17) (v := .d (.fl (.int .i64 (k : Int)))) rfl (og rfl (op_move rfl rfl rfl)) ?_
      refine rg_put (d := 4) (v := .d (.fl (.int .i64 (k : Int)))) rfl (og rfl (op_assign rfl rfl rfl)) ?_
      refine rg_done rfl ?_
      refine a_ret ?_
      show ∃ ds, ResL _ _ _ ds ∧ RV.of ds = _
      refine ⟨[.fl (.int .i64 (k : Int))], (.cons (.tmp rfl (.d _)) .nil), ?_⟩
      have hu : nmJ l s = (k : Int) := idx_at (by omega) hq h3
      rw [hu]; rfl
    · skip
      refine a_skip ?_
      show A _ _ _ _ _ _ _
      refine a_region ?_
      refine rg_put (d := 18) (v := .d (.fl (.int .i64 (((k : Int) + 1))))) rfl (og rfl (op_bin rfl rfl rfl (fun x y w => b_add64 _ _ _ x y w (by omega)) rfl)) ?_
      refine rg_put (d := 8) (v := .d (.fl (.int .i64 (((k : Int) + 1))))) rfl (og rfl (op_move rfl rfl rfl)) ?_
      refine rg_done rfl ?_
      have hx : (sEq (ix l k).name s) = false := h3
      show ∃ i, _ ∧ _ ∧ Imp _ _ _ _ _
      refine ⟨k + 1, ⟨by omega, fun q h => (Nat.lt_succ_iff_lt_or_eq.1 h).elim (hq q) (fun e => by rw [e]; exact hx)⟩, by omega, imp_forget rfl ⟨rfl, rfl, rfl, (by first | rfl | exact ci (by omega) | exact ci (by simp) | exact cd (by simp) | simp), trivial⟩ trivial⟩
  · skip
    have h4 := f_dec h1
    refine a_exit ?_
    show A _ _ _ _ _ _ _
    refine a_rseq ?_
    refine rg_put (d := 4) (v := .d (.fl (.int .i64 (-1)))) rfl (og rfl (op_assign rfl rfl rfl)) ?_
    refine rg_done rfl ?_
    refine a_ret ?_
    show ∃ ds, ResL _ _ _ ds ∧ RV.of ds = _
    refine ⟨[.fl (.int .i64 (-1))], (.cons (.tmp rfl (.d _)) .nil), ?_⟩
    have hu : nmJ l s = -1 := idx_no (fun q h => hq q (by omega))
    rw [hu]; rfl
set_option maxHeartbeats 4000000 in
set_option maxRecDepth 100000 in
theorem sstC (t : Tpg) (s : ByteArray) (hl : t.syss.length ≤ 1000) : Ctr Tryz.prog 15 [.ag (eTpg t), .fl (.string s)] (.tu [.ag (eSys (fS t.syss s).1), .fl (.bool (fS t.syss s).2)]) := by
  refine ctr (n := 19) (rs := #[.cell 4 31, .tmp 5]) (L := [(0, .d (.ag (eTpg t))), (1, .d (.fl (.string s)))]) Tryz.func15 rfl rfl rfl rfl rfl (fun w0 U0 => ?_)
  refine a_rseq ?_
  refine rg_nam (d := 2) (v := .pt 101 0) (m := 101) (nw := [(101, .bx 28 (eTpg t))]) rfl (og rfl (of_eff (op_box 101 rfl rfl rfl rfl) rfl)) rfl ?_
  refine rg_nam (d := 3) (v := .pt 102 0) (m := 102) (nw := [(102, .bx 9 [.fl (.string s)])]) rfl (og rfl (of_eff (op_box 102 rfl rfl rfl rfl) rfl)) rfl ?_
  refine rg_nam (d := 4) (v := .pt 103 0) (m := 103) (nw := [(103, .bx 31 ([.fl (.string (⟨#[]⟩)), .fl (.bool false), .fl (.int .i64 0)]))]) rfl (og rfl (of_eff (s_alloc 103 rfl ti31 (by kernel_rfl) rfl) rfl)) rfl ?_
  refine rg_put (d := 5) (v := .d (.fl (.bool false))) rfl (og rfl (op_assign rfl rfl rfl)) ?_
  refine rg_done rfl ?_
  refine a_rseq ?_
  refine rg_imp (imp_freeze 3 102 rfl rfl) ?_
  refine rg_put (d := 7) (v := .pt 101 2) rfl (og rfl (of_eff (s_field_pt rfl Tryz.underlying28 rfl ti26 rfl rfl rfl) rfl)) ?_
  refine rg_put (d := 8) (v := .d (.sl 3 (List.map eSys t.syss))) rfl (og rfl (op_load_pt rfl Tryz.underlying26 rfl rfl rfl rfl rfl)) ?_
  refine rg_put (d := 9) (v := .d (.fn 30 [.el [.fl (.string s)]])) rfl (og rfl (op_mkfn rfl (.cons rfl .nil) rfl)) ?_
  refine rg_put (d := 10) (v := .d (.fl (.int .i64 (nmJ t.syss s)))) rfl (og rfl (op_call rfl Tryz.func29 nm29 rfl (.cons rfl (.d _) (.cons rfl (.d _) .nil)) (ixS t.syss s (by omega)) rfl)) ?_
  refine rg_put (d := 6) (v := .d (.fl (.int .i64 (nmJ t.syss s)))) rfl (og rfl (op_assign rfl rfl rfl)) ?_
  refine rg_done rfl ?_
  refine a_seq ?_
  refine a_rseq ?_
  refine rg_put (d := 11) (v := .d (.fl (.int .i64 (nmJ t.syss s)))) rfl (og rfl (op_move rfl rfl rfl)) ?_
  refine rg_put (d := 12) (v := .d (.fl (.bool ((decide ((nmJ t.syss s) < 0)))))) rfl (og rfl (op_bin rfl rfl rfl (b_lss _ _ _ _) rfl)) ?_
  refine rg_done rfl ?_
  refine a_cond rfl (fun h1 => ?_) (fun h1 => ?_)
  · skip
    have h2 := t_dec h1
    refine a_rseq ?_
    refine rg_put (d := 13) (v := .d (.ag (eSys ((Sys.mk (⟨#[]⟩) false 0))))) rfl (og rfl (of_eff (op_build rfl Tryz.underlying31 ti31 rfl (by kernel_rfl) (by kernel_rfl) (pl := #[(0, 1), (1, 1), (2, 1)]) (by kernel_rfl) .nil rfl) rfl)) ?_
    refine rg_sto (nw := [(103, .bx 31 ((eSys ((Sys.mk (⟨#[]⟩) false 0)))))]) rfl (og rfl (of_eff (s_store rfl rfl ti31 rfl rfl rfl rfl rfl rfl) rfl)) ?_
    refine rg_put (d := 5) (v := .d (.fl (.bool false))) rfl (og rfl (op_assign rfl rfl rfl)) ?_
    refine rg_done rfl ?_
    refine a_ret ?_
    show ∃ ds, ResL _ _ _ ds ∧ RV.of ds = _
    refine ⟨[.ag [.fl (.string (((Sys.mk (⟨#[]⟩) false 0)).name)), .fl (.bool (((Sys.mk (⟨#[]⟩) false 0)).closed)), .fl (.int .i64 (((Sys.mk (⟨#[]⟩) false 0)).most))], .fl (.bool false)], (.cons (.cellT rfl rfl Tryz.underlying31 rfl ti31 rfl (Cv.ag (xs := [.fl (.string (((Sys.mk (⟨#[]⟩) false 0)).name)), .fl (.bool (((Sys.mk (⟨#[]⟩) false 0)).closed)), .fl (.int .i64 (((Sys.mk (⟨#[]⟩) false 0)).most))]) (ys := [.fl (.string (((Sys.mk (⟨#[]⟩) false 0)).name)), .fl (.bool (((Sys.mk (⟨#[]⟩) false 0)).closed)), .fl (.int .i64 (((Sys.mk (⟨#[]⟩) false 0)).most))]) ⟨Cv.refl _, Cv.refl _, Cv.refl _, trivial⟩)) (.cons (.tmp rfl (.d _)) .nil)), ?_⟩
    rw [fS_neg (of_decide_eq_true h1)]; rfl
  · skip
    have h3 := f_dec h1
    refine a_skip ?_
    show A _ _ _ _ _ _ _
    refine a_rseq ?_
    obtain ⟨ha0, ha1, hat⟩ := fS_at (of_decide_eq_false h1)
    refine rg_put (d := 14) (v := .pt 101 2) rfl (og rfl (of_eff (s_field_pt rfl Tryz.underlying28 rfl ti26 rfl rfl rfl) rfl)) ?_
    refine rg_put (d := 15) (v := .d (.sl 3 (List.map eSys t.syss))) rfl (og rfl (op_load_pt rfl Tryz.underlying26 rfl rfl rfl rfl rfl)) ?_
    refine rg_put (d := 16) (v := .d (.fl (.int .i64 (nmJ t.syss s)))) rfl (og rfl (op_move rfl rfl rfl)) ?_
    refine rg_put (d := 17) (v := .el ((eSys ((ix t.syss ((nmJ t.syss s)).toNat))))) rfl (og rfl (s_index rfl Tryz.underlying26 ti31 rfl rfl (by omega) (row_atI (by omega) (by omega)) rfl)) ?_
    refine rg_put (d := 18) (v := .d (.ag (eSys (((ix t.syss ((nmJ t.syss s)).toNat)))))) rfl (og rfl (of_eff (s_load_els rfl Tryz.underlying31 rfl ti31 rfl rfl rfl) rfl)) ?_
    refine rg_sto (nw := [(103, .bx 31 ((eSys (((ix t.syss ((nmJ t.syss s)).toNat))))))]) rfl (og rfl (of_eff (s_store rfl rfl ti31 rfl rfl rfl rfl rfl rfl) rfl)) ?_
    refine rg_put (d := 5) (v := .d (.fl (.bool true))) rfl (og rfl (op_assign rfl rfl rfl)) ?_
    refine rg_done rfl ?_
    refine a_ret ?_
    show ∃ ds, ResL _ _ _ ds ∧ RV.of ds = _
    refine ⟨[.ag [.fl (.string ((((ix t.syss ((nmJ t.syss s)).toNat))).name)), .fl (.bool ((((ix t.syss ((nmJ t.syss s)).toNat))).closed)), .fl (.int .i64 ((((ix t.syss ((nmJ t.syss s)).toNat))).most))], .fl (.bool true)], (.cons (.cellT rfl rfl Tryz.underlying31 rfl ti31 rfl (Cv.ag (xs := [.fl (.string ((((ix t.syss ((nmJ t.syss s)).toNat))).name)), .fl (.bool ((((ix t.syss ((nmJ t.syss s)).toNat))).closed)), .fl (.int .i64 ((((ix t.syss ((nmJ t.syss s)).toNat))).most))]) (ys := [.fl (.string ((((ix t.syss ((nmJ t.syss s)).toNat))).name)), .fl (.bool ((((ix t.syss ((nmJ t.syss s)).toNat))).closed)), .fl (.int .i64 ((((ix t.syss ((nmJ t.syss s)).toNat))).most))]) ⟨Cv.refl _, Cv.refl _, Cv.refl _, trivial⟩)) (.cons (.tmp rfl (.d _)) .nil)), ?_⟩
    rw [hat]; rfl
set_option maxHeartbeats 4000000 in
set_option maxRecDepth 100000 in
theorem sysC (t : Tpg) (s : ByteArray) : Ctr Tryz.prog 5 [.ag (eTpg t), .fl (.string s)] (.tu [.ag (eSys (sR t s).1), .fl (.bool (sR t s).2)]) := by
  refine ctr (n := 22) (rs := #[.cell 4 31, .tmp 5]) (L := [(0, .d (.ag (eTpg t))), (1, .d (.fl (.string s)))]) Tryz.func5 rfl rfl rfl rfl rfl (fun w0 U0 => ?_)
  refine a_rseq ?_
  refine rg_nam (d := 2) (v := .pt 101 0) (m := 101) (nw := [(101, .bx 28 (eTpg t))]) rfl (og rfl (of_eff (op_box 101 rfl rfl rfl rfl) rfl)) rfl ?_
  refine rg_nam (d := 4) (v := .pt 102 0) (m := 102) (nw := [(102, .bx 31 ([.fl (.string (⟨#[]⟩)), .fl (.bool false), .fl (.int .i64 0)]))]) rfl (og rfl (of_eff (s_alloc 102 rfl ti31 (by kernel_rfl) rfl) rfl)) rfl ?_
  refine rg_put (d := 5) (v := .d (.fl (.bool false))) rfl (og rfl (op_assign rfl rfl rfl)) ?_
  refine rg_done rfl ?_
  refine a_rseq ?_
  refine rg_put (d := 8) (v := .d (.ag (eTpg t))) rfl (og rfl (of_eff (s_load_pts rfl Tryz.underlying28 rfl ti28 rfl rfl rfl rfl) rfl)) ?_
  refine rg_put (d := 9) (v := .d (.ag (eTpg (vT t)))) rfl (og rfl (op_call rfl Tryz.func13 nm13 rfl (.cons rfl (.d _) .nil) (valid_c t) rfl)) ?_
  refine rg_sto (nw := [(101, .bx 28 ((eTpg (vT t))))]) rfl (og rfl (of_eff (s_store rfl rfl ti28 rfl rfl rfl rfl rfl rfl) rfl)) ?_
  refine rg_done rfl ?_
  refine a_rseq ?_
  refine rg_put (d := 11) (v := .d (.ag (eTpg (vT t)))) rfl (og rfl (of_eff (s_load_pts rfl Tryz.underlying28 rfl ti28 rfl rfl rfl rfl) rfl)) ?_
  refine rg_put (d := 12) (v := .d (.fl (.string s))) rfl (og rfl (op_move rfl rfl rfl)) ?_
  refine rg_put (d := 13) (v := .tu [.ag (ePnt ((fN (vT t).net.pts s).1)), .fl (.bool ((fN (vT t).net.pts s).2))]) rfl (og rfl (op_call rfl Tryz.func14 nm14 rfl (.cons rfl (.d _) (.cons rfl (.d _) .nil)) (pntC (vT t) s (by have := vT_len t; omega)) rfl)) ?_
  refine rg_put (d := 10) (v := .tu [.ag (ePnt ((fN (vT t).net.pts s).1)), .fl (.bool ((fN (vT t).net.pts s).2))]) rfl (og rfl (op_move rfl rfl rfl)) ?_
  refine rg_put (d := 14) (v := .d (.ag (ePnt ((fN (vT t).net.pts s).1)))) rfl (og rfl (op_extract rfl rfl rfl rfl)) ?_
  refine rg_put (d := 15) (v := .d (.fl (.bool ((fN (vT t).net.pts s).2)))) rfl (og rfl (op_extract rfl rfl rfl rfl)) ?_
  refine rg_nam (d := 6) (v := .pt 103 0) (m := 103) (nw := [(103, .bx 42 ([.fl (.string (⟨#[]⟩)), .fl (.int .i64 0), .fl (.string (⟨#[]⟩))]))]) rfl (og rfl (of_eff (s_alloc 103 rfl ti42 (by kernel_rfl) rfl) rfl)) rfl ?_
  refine rg_sto (nw := [(103, .bx 42 ((ePnt ((fN (vT t).net.pts s).1))))]) rfl (og rfl (of_eff (s_store rfl rfl ti42 rfl rfl rfl rfl rfl rfl) rfl)) ?_
  refine rg_put (d := 7) (v := .d (.fl (.bool ((fN (vT t).net.pts s).2)))) rfl (og rfl (op_assign rfl rfl rfl)) ?_
  refine rg_done rfl ?_
  refine a_rseq ?_
  refine rg_put (d := 16) (v := .d (.ag (eTpg (vT t)))) rfl (og rfl (of_eff (s_load_pts rfl Tryz.underlying28 rfl ti28 rfl rfl rfl rfl) rfl)) ?_
  refine rg_put (d := 17) (v := .pt 103 2) rfl (og rfl (of_eff (s_field_pt rfl Tryz.underlying42 rfl ti9 rfl rfl rfl) rfl)) ?_
  refine rg_put (d := 18) (v := .d (.fl (.string (((fN (vT t).net.pts s).1).sys)))) rfl (og rfl (op_load_pt rfl Tryz.underlying9 rfl rfl rfl rfl rfl)) ?_
  refine rg_put (d := 19) (v := .tu [.ag (eSys ((fS (vT t).syss (((fN (vT t).net.pts s).1).sys)).1)), .fl (.bool ((fS (vT t).syss (((fN (vT t).net.pts s).1).sys)).2))]) rfl (og rfl (op_call rfl Tryz.func15 nm15 rfl (.cons rfl (.d _) (.cons rfl (.d _) .nil)) (sstC (vT t) (((fN (vT t).net.pts s).1).sys) (by have := vT_sys t; omega)) rfl)) ?_
  refine rg_put (d := 20) (v := .d (.ag (eSys ((fS (vT t).syss (((fN (vT t).net.pts s).1).sys)).1)))) rfl (og rfl (op_extract rfl rfl rfl rfl)) ?_
  refine rg_put (d := 21) (v := .d (.fl (.bool ((fS (vT t).syss (((fN (vT t).net.pts s).1).sys)).2)))) rfl (og rfl (op_extract rfl rfl rfl rfl)) ?_
  refine rg_sto (nw := [(102, .bx 31 ((eSys ((fS (vT t).syss (((fN (vT t).net.pts s).1).sys)).1))))]) rfl (og rfl (of_eff (s_store rfl rfl ti31 rfl rfl rfl rfl rfl rfl) rfl)) ?_
  refine rg_put (d := 5) (v := .d (.fl (.bool ((fS (vT t).syss (((fN (vT t).net.pts s).1).sys)).2)))) rfl (og rfl (op_assign rfl rfl rfl)) ?_
  refine rg_done rfl ?_
  refine a_ret ?_
  show ∃ ds, ResL _ _ _ ds ∧ RV.of ds = _
  refine ⟨[.ag [.fl (.string (((fS (vT t).syss (((fN (vT t).net.pts s).1).sys)).1).name)), .fl (.bool (((fS (vT t).syss (((fN (vT t).net.pts s).1).sys)).1).closed)), .fl (.int .i64 (((fS (vT t).syss (((fN (vT t).net.pts s).1).sys)).1).most))], .fl (.bool ((fS (vT t).syss (((fN (vT t).net.pts s).1).sys)).2))], (.cons (.cellT rfl rfl Tryz.underlying31 rfl ti31 rfl (Cv.ag (xs := [.fl (.string (((fS (vT t).syss (((fN (vT t).net.pts s).1).sys)).1).name)), .fl (.bool (((fS (vT t).syss (((fN (vT t).net.pts s).1).sys)).1).closed)), .fl (.int .i64 (((fS (vT t).syss (((fN (vT t).net.pts s).1).sys)).1).most))]) (ys := [.fl (.string (((fS (vT t).syss (((fN (vT t).net.pts s).1).sys)).1).name)), .fl (.bool (((fS (vT t).syss (((fN (vT t).net.pts s).1).sys)).1).closed)), .fl (.int .i64 (((fS (vT t).syss (((fN (vT t).net.pts s).1).sys)).1).most))]) ⟨Cv.refl _, Cv.refl _, Cv.refl _, trivial⟩)) (.cons (.tmp rfl (.d _)) .nil)), ?_⟩
  rfl
set_option maxHeartbeats 4000000 in
set_option maxRecDepth 100000 in
theorem kindC (t : Tpg) (s : ByteArray) : Ctr Tryz.prog 7 [.ag (eTpg t), .fl (.string s)] (.d (.fl (.int .i64 (kd (kn t) s)))) := by
  refine ctr (n := 16) (rs := #[.tmp 4]) (L := [(0, .d (.ag (eTpg t))), (1, .d (.fl (.string s)))]) Tryz.func7 rfl rfl rfl rfl rfl (fun w0 U0 => ?_)
  refine a_rseq ?_
  refine rg_nam (d := 2) (v := .pt 101 0) (m := 101) (nw := [(101, .bx 28 (eTpg t))]) rfl (og rfl (of_eff (op_box 101 rfl rfl rfl rfl) rfl)) rfl ?_
  refine rg_put (d := 4) (v := .d (.fl (.int .i64 0))) rfl (og rfl (op_assign rfl rfl rfl)) ?_
  refine rg_done rfl ?_
  refine a_rseq ?_
  refine rg_put (d := 8) (v := .d (.ag (eTpg t))) rfl (og rfl (of_eff (s_load_pts rfl Tryz.underlying28 rfl ti28 rfl rfl rfl rfl) rfl)) ?_
  refine rg_put (d := 9) (v := .d (.ag (eTpg (vT t)))) rfl (og rfl (op_call rfl Tryz.func13 nm13 rfl (.cons rfl (.d _) .nil) (valid_c t) rfl)) ?_
  refine rg_put (d := 10) (v := .d (.fl (.string s))) rfl (og rfl (op_move rfl rfl rfl)) ?_
  refine rg_put (d := 11) (v := .tu [.ag (ePnt ((fN (vT t).net.pts s).1)), .fl (.bool ((fN (vT t).net.pts s).2))]) rfl (og rfl (op_call rfl Tryz.func14 nm14 rfl (.cons rfl (.d _) (.cons rfl (.d _) .nil)) (pntC (vT t) s (by have := vT_len t; omega)) rfl)) ?_
  refine rg_put (d := 7) (v := .tu [.ag (ePnt ((fN (vT t).net.pts s).1)), .fl (.bool ((fN (vT t).net.pts s).2))]) rfl (og rfl (op_move rfl rfl rfl)) ?_
  refine rg_put (d := 12) (v := .d (.ag (ePnt ((fN (vT t).net.pts s).1)))) rfl (og rfl (op_extract rfl rfl rfl rfl)) ?_
  refine rg_put (d := 13) (v := .d (.fl (.bool ((fN (vT t).net.pts s).2)))) rfl (og rfl (op_extract rfl rfl rfl rfl)) ?_
  refine rg_nam (d := 5) (v := .pt 102 0) (m := 102) (nw := [(102, .bx 42 ([.fl (.string (⟨#[]⟩)), .fl (.int .i64 0), .fl (.string (⟨#[]⟩))]))]) rfl (og rfl (of_eff (s_alloc 102 rfl ti42 (by kernel_rfl) rfl) rfl)) rfl ?_
  refine rg_sto (nw := [(102, .bx 42 ((ePnt ((fN (vT t).net.pts s).1))))]) rfl (og rfl (of_eff (s_store rfl rfl ti42 rfl rfl rfl rfl rfl rfl) rfl)) ?_
  refine rg_put (d := 6) (v := .d (.fl (.bool ((fN (vT t).net.pts s).2)))) rfl (og rfl (op_assign rfl rfl rfl)) ?_
  refine rg_done rfl ?_
  refine a_rseq ?_
  refine rg_put (d := 14) (v := .pt 102 1) rfl (og rfl (of_eff (s_field_pt rfl Tryz.underlying42 rfl ti3 rfl rfl rfl) rfl)) ?_
  refine rg_put (d := 15) (v := .d (.fl (.int .i64 (((fN (vT t).net.pts s).1).kind)))) rfl (og rfl (op_load_pt rfl Tryz.underlying3 rfl rfl rfl rfl rfl)) ?_
  refine rg_put (d := 4) (v := .d (.fl (.int .i64 (((fN (vT t).net.pts s).1).kind)))) rfl (og rfl (op_assign rfl rfl rfl)) ?_
  refine rg_done rfl ?_
  refine a_ret ?_
  show ∃ ds, ResL _ _ _ ds ∧ RV.of ds = _
  refine ⟨[.fl (.int .i64 (((fN (vT t).net.pts s).1).kind))], (.cons (.tmp rfl (.d _)) .nil), ?_⟩
  rfl
set_option maxHeartbeats 4000000 in
set_option maxRecDepth 100000 in
theorem ptsC (t : Tpg) (s : ByteArray) (c : Int) : Ctr Tryz.prog 10 [.ag (eTpg t), .fl (.string s), .fl (.int .i64 c)] (.d (.sl 1 (List.map rS (srtS (pn (kn t) s c (kn t).length))))) := by
  refine ctr (n := 38) (rs := #[.tmp 6]) (L := [(0, .d (.ag (eTpg t))), (1, .d (.fl (.string s))), (2, .d (.fl (.int .i64 c)))]) Tryz.func10 rfl rfl rfl rfl rfl (fun w0 U0 => ?_)
  refine a_rseq ?_
  have hkl := kn_len t
  have hkd : (kn t).length = (vT t).net.pts.length := rfl
  refine rg_nam (d := 3) (v := .pt 101 0) (m := 101) (nw := [(101, .bx 28 (eTpg t))]) rfl (og rfl (of_eff (op_box 101 rfl rfl rfl rfl) rfl)) rfl ?_
  refine rg_put (d := 6) (v := .d (.fl (.slice none 0 0))) rfl (og rfl (op_assign rfl rfl rfl)) ?_
  refine rg_done rfl ?_
  refine a_rseq ?_
  refine rg_put (d := 7) (v := .d (.fl (.slice none 0 0))) rfl (og rfl (op_assign rfl rfl rfl)) ?_
  refine rg_done rfl ?_
  refine a_seq ?_
  refine a_rseq ?_
  refine rg_imp (imp_nilT 7 102 9 1 rfl rfl) ?_
  refine rg_put (d := 10) (v := .d (.ag (eTpg t))) rfl (og rfl (of_eff (s_load_pts rfl Tryz.underlying28 rfl ti28 rfl rfl rfl rfl) rfl)) ?_
  refine rg_put (d := 11) (v := .d (.ag (eTpg (vT t)))) rfl (og rfl (op_call rfl Tryz.func13 nm13 rfl (.cons rfl (.d _) .nil) (valid_c t) rfl)) ?_
  refine rg_put (d := 12) (v := .d (.ag (eNwk ((vT t).net)))) rfl (og rfl (of_eff (op_fieldV rfl Tryz.underlying28 rfl Tryz.underlying25 rfl ti25 rfl rfl rfl rfl) rfl)) ?_
  refine rg_put (d := 13) (v := .d (.sl 3 (List.map ePnt (((vT t).net).pts)))) rfl (og rfl (op_fieldC rfl Tryz.underlying25 rfl Tryz.underlying22 rfl rfl rfl rfl rfl)) ?_
  refine rg_put (d := 14) (v := .d (.fl (.int .i64 (((((vT t).net).pts).length : Int))))) rfl (og rfl (s_len rfl Tryz.underlying22 rfl rfl)) ?_
  refine rg_put (d := 15) (v := .d (.fl (.int .i64 0))) rfl (og rfl (op_move rfl rfl rfl)) ?_
  refine rg_done rfl ?_
  refine a_block ?_
  refine a_loop (ι := Nat) (fun k => SS [(0, .d (.ag (eTpg t))), (1, .d (.fl (.string s))), (2, .d (.fl (.int .i64 c))), (3, .pt 101 0), (6, .d (.fl (.slice none 0 0))), (13, .d (.sl 3 (List.map ePnt (((vT t).net).pts)))), (14, .d (.fl (.int .i64 (((((vT t).net).pts).length : Int))))), (15, .d (.fl (.int .i64 (k : Int)))), (7, .ow 102)] [(101, .bx 28 (eTpg t)), (102, .tr 9 1 (tD rS ((pn (kn t) s c k))))]) (fun k => k ≤ (kn t).length) (fun k => (kn t).length - k) 0 (by omega) (imp_forget rfl ⟨rfl, rfl, rfl, rfl, rfl, rfl, rfl, (by first | rfl | exact ci (by omega) | exact ci (by simp) | exact cd (by simp) | simp), (by first | rfl | exact ci (by omega) | exact ci (by simp) | exact cd (by simp) | simp), trivial⟩ ⟨rfl, rfl, trivial⟩) (fun k hok => ?_)
  have hk := hok
  have hpl := pn_len (kn t) s c k
  refine a_rseq ?_
  refine rg_put (d := 16) (v := .d (.fl (.bool ((decide ((k : Int) < ((((vT t).net).pts).length : Int))))))) rfl (og rfl (op_bin rfl rfl rfl (b_lss _ _ _ _) rfl)) ?_
  refine rg_done rfl ?_
  refine a_seq ?_
  refine a_cond rfl (fun h1 => ?_) (fun h1 => ?_)
  · skip
    have h2 := t_dec h1
    refine a_skip ?_
    show A _ _ _ _ _ _ _
    refine a_seq ?_
    refine a_block ?_
    refine a_rseq ?_
    refine rg_put (d := 17) (v := .el ((ePnt ((ix (((vT t).net).pts) k))))) rfl (og rfl (s_index rfl Tryz.underlying22 ti42 rfl rfl (by omega) (row_at (by omega)) rfl)) ?_
    refine rg_put (d := 18) (v := .d (.ag (ePnt (((ix (((vT t).net).pts) k)))))) rfl (og rfl (of_eff (s_load_els rfl Tryz.underlying42 rfl ti42 rfl rfl rfl) rfl)) ?_
    refine rg_nam (d := 9) (v := .pt 103 0) (m := 103) (nw := [(103, .bx 42 ([.fl (.string (⟨#[]⟩)), .fl (.int .i64 0), .fl (.string (⟨#[]⟩))]))]) rfl (og rfl (of_eff (s_alloc 103 rfl ti42 (by kernel_rfl) rfl) rfl)) rfl ?_
    refine rg_sto (nw := [(103, .bx 42 ((ePnt (((ix (((vT t).net).pts) k))))))]) rfl (og rfl (of_eff (s_store rfl rfl ti42 rfl rfl rfl rfl rfl rfl) rfl)) ?_
    refine rg_done rfl ?_
    refine a_rseq ?_
    have hk1 : k < (kn t).length := by omega
    refine rg_put (d := 19) (v := .pt 103 2) rfl (og rfl (of_eff (s_field_pt rfl Tryz.underlying42 rfl ti9 rfl rfl rfl) rfl)) ?_
    refine rg_put (d := 20) (v := .d (.fl (.string ((((ix (((vT t).net).pts) k))).sys)))) rfl (og rfl (op_load_pt rfl Tryz.underlying9 rfl rfl rfl rfl rfl)) ?_
    refine rg_put (d := 21) (v := .d (.fl (.string s))) rfl (og rfl (op_move rfl rfl rfl)) ?_
    refine rg_put (d := 22) (v := .d (.fl (.bool ((sEq ((((ix (((vT t).net).pts) k))).sys) s))))) rfl (og rfl (op_bin rfl rfl rfl (b_seq _ _ _) rfl)) ?_
    refine rg_put (d := 23) (v := .d (.fl (.bool ((sEq ((((ix (((vT t).net).pts) k))).sys) s))))) rfl (og rfl (op_move rfl rfl rfl)) ?_
    rcases fot ((sEq ((((ix (((vT t).net).pts) k))).sys) s)) with h3 | h3
    · skip
      refine rg_put (d := 24) (v := .d (.fl undef)) rfl (on rfl rfl rfl h3) ?_
      refine rg_put (d := 25) (v := .d (.fl undef)) rfl (on rfl rfl rfl h3) ?_
      refine rg_put (d := 26) (v := .d (.fl undef)) rfl (on rfl rfl rfl h3) ?_
      refine rg_put (d := 27) (v := .d (.fl undef)) rfl (on rfl rfl rfl h3) ?_
      refine rg_put (d := 28) (v := .d (.fl (.bool false))) rfl (og rfl (op_pick rfl rfl (by rw [h3]; rfl) rfl)) ?_
      refine rg_done rfl ?_
      refine a_condF rfl rfl ?_
      refine a_skip ?_
      show A _ _ _ _ _ _ _
      refine a_region ?_
      refine rg_put (d := 34) (v := .d (.fl (.int .i64 (((k : Int) + 1))))) rfl (og rfl (op_bin rfl rfl rfl (fun x y w => b_add64 _ _ _ x y w (by omega)) rfl)) ?_
      refine rg_put (d := 15) (v := .d (.fl (.int .i64 (((k : Int) + 1))))) rfl (og rfl (op_move rfl rfl rfl)) ?_
      refine rg_done rfl ?_
      have hst : (pn (kn t) s c k) = pn (kn t) s c (k + 1) := pn_n hk1 (by show (sEq (ix (vT t).net.pts k).sys s && ((ix (vT t).net.pts k).kind == c)) = false; rw [h3]; rfl)
      show ∃ i, _ ∧ _ ∧ Imp _ _ _ _ _
      refine ⟨k + 1, (by omega), by omega, imp_forget rfl ⟨rfl, rfl, rfl, rfl, rfl, rfl, rfl, (by first | rfl | exact ci (by omega) | exact ci (by simp) | exact cd (by simp) | simp), rfl, trivial⟩ ⟨rfl, (congrArg (fun z => Ob.tr 9 1 (tD rS z)) hst), trivial⟩⟩
    · skip
      refine rg_put (d := 24) (v := .pt 103 1) rfl (oy rfl rfl rfl h3 (of_eff (s_field_pt rfl Tryz.underlying42 rfl ti3 rfl rfl rfl) rfl)) ?_
      refine rg_put (d := 25) (v := .d (.fl (.int .i64 ((((ix (((vT t).net).pts) k))).kind)))) rfl (oy rfl rfl rfl h3 (op_load_pt rfl Tryz.underlying3 rfl rfl rfl rfl rfl)) ?_
      refine rg_put (d := 26) (v := .d (.fl (.int .i64 c))) rfl (oy rfl rfl rfl h3 (op_move rfl rfl rfl)) ?_
      refine rg_put (d := 27) (v := .d (.fl (.bool (((((ix (((vT t).net).pts) k))).kind == c))))) rfl (oy rfl rfl rfl h3 (op_bin rfl rfl rfl (b_eql _ _ _ _) rfl)) ?_
      refine rg_put (d := 28) (v := .d (.fl (.bool (((((ix (((vT t).net).pts) k))).kind == c))))) rfl (og rfl (op_pick rfl rfl (by rw [h3]; rfl) rfl)) ?_
      refine rg_done rfl ?_
      refine a_cond rfl (fun h4 => ?_) (fun h4 => ?_)
      · skip
        have h5 := t_beq h4
        refine a_region ?_
        refine rg_put (d := 29) (v := .ow 102) rfl (og rfl (op_move rfl rfl rfl)) ?_
        refine rg_put (d := 30) (v := .pt 103 0) rfl (og rfl (of_eff (s_field_pt rfl Tryz.underlying42 rfl ti9 rfl rfl rfl) rfl)) ?_
        refine rg_put (d := 31) (v := .d (.fl (.string ((((ix (((vT t).net).pts) k))).name)))) rfl (og rfl (op_load_pt rfl Tryz.underlying9 rfl rfl rfl rfl rfl)) ?_
        refine rg_put (d := 32) (v := .d (.sl 1 (List.map rS [(((ix (((vT t).net).pts) k))).name]))) rfl (og rfl (of_eff (op_slices rfl Tryz.underlying36 ti9 rfl rfl rfl (by kernel_rfl) (xs := [.fl (.string ((((ix (((vT t).net).pts) k))).name))]) rfl rfl (.cons rfl rfl (.d _) rfl rfl rfl .nil) rfl) rfl)) ?_
        refine rg_nam (d := 33) (v := .ow 104) (m := 104) (nw := [(104, .tr 9 1 (tD rS (((pn (kn t) s c k) ++ [(((ix (((vT t).net).pts) k))).name])))), (102, .no)]) rfl (og rfl (of_eff (s_append_td 104 rfl Tryz.underlying36 ti9 rfl rfl rfl rfl rfl (.d _) (by simp only [List.length_append, List.length_cons, List.length_nil]; omega) rfl) rfl)) rfl ?_
        refine rg_put (d := 7) (v := .ow 104) rfl (og rfl (op_assign rfl rfl rfl)) ?_
        refine rg_done rfl ?_
        show A _ _ _ _ _ _ _
        refine a_region ?_
        refine rg_put (d := 34) (v := .d (.fl (.int .i64 (((k : Int) + 1))))) rfl (og rfl (op_bin rfl rfl rfl (fun x y w => b_add64 _ _ _ x y w (by omega)) rfl)) ?_
        refine rg_put (d := 15) (v := .d (.fl (.int .i64 (((k : Int) + 1))))) rfl (og rfl (op_move rfl rfl rfl)) ?_
        refine rg_done rfl ?_
        have hst : ((pn (kn t) s c k) ++ [(((ix (((vT t).net).pts) k))).name]) = pn (kn t) s c (k + 1) := pn_y hk1 (by show (sEq (ix (vT t).net.pts k).sys s && ((ix (vT t).net.pts k).kind == c)) = true; rw [h3, h4]; rfl)
        show ∃ i, _ ∧ _ ∧ Imp _ _ _ _ _
        refine ⟨k + 1, (by omega), by omega, imp_ren (fun m => bif Nat.beq m 102 then 104 else m) rfl ⟨rfl, rfl, rfl, rfl, rfl, rfl, rfl, (by first | rfl | exact ci (by omega) | exact ci (by simp) | exact cd (by simp) | simp), rfl, trivial⟩ ⟨rfl, (congrArg (fun z => Ob.tr 9 1 (tD rS z)) hst), trivial⟩⟩
      · skip
        have h6 := f_beq h4
        refine a_skip ?_
        show A _ _ _ _ _ _ _
        refine a_region ?_
        refine rg_put (d := 34) (v := .d (.fl (.int .i64 (((k : Int) + 1))))) rfl (og rfl (op_bin rfl rfl rfl (fun x y w => b_add64 _ _ _ x y w (by omega)) rfl)) ?_
        refine rg_put (d := 15) (v := .d (.fl (.int .i64 (((k : Int) + 1))))) rfl (og rfl (op_move rfl rfl rfl)) ?_
        refine rg_done rfl ?_
        have hst : (pn (kn t) s c k) = pn (kn t) s c (k + 1) := pn_n hk1 (by show (sEq (ix (vT t).net.pts k).sys s && ((ix (vT t).net.pts k).kind == c)) = false; rw [h3, h4]; rfl)
        show ∃ i, _ ∧ _ ∧ Imp _ _ _ _ _
        refine ⟨k + 1, (by omega), by omega, imp_forget rfl ⟨rfl, rfl, rfl, rfl, rfl, rfl, rfl, (by first | rfl | exact ci (by omega) | exact ci (by simp) | exact cd (by simp) | simp), rfl, trivial⟩ ⟨rfl, (congrArg (fun z => Ob.tr 9 1 (tD rS z)) hst), trivial⟩⟩
  · skip
    have h7 := f_dec h1
    refine a_exit ?_
    show A _ _ _ _ _ _ _
    refine a_rseq ?_
    have hke : k = (kn t).length := by omega
    rw [show (pn (kn t) s c k) = (pn (kn t) s c (kn t).length) from (by rw [hke])]
    have hpl := pn_len (kn t) s c (kn t).length
    refine rg_put (d := 35) (v := .ow 102) rfl (og rfl (op_move rfl rfl rfl)) ?_
    refine rg_sortP (gα := rS) (fα := (fun s : ByteArray => Value.string s)) (sr := srtS) (l := (pn (kn t) s c (kn t).length)) rfl rfl rfl rfl (by rfl) Tryz.func19 nm19 rfl rfl rfl (fun _ => rfl) (fun _ => rfl) sortStr srtS_len (by omega) ?_
    refine rg_done rfl ?_
    refine a_rseq ?_
    refine rg_put (d := 37) (v := .ow 102) rfl (og rfl (op_move rfl rfl rfl)) ?_
    refine rg_put (d := 6) (v := .ow 102) rfl (og rfl (op_assign rfl rfl rfl)) ?_
    refine rg_done rfl ?_
    refine a_imp (imp_leakT 6 102 rfl rfl) ?_
    refine a_ret ?_
    show ∃ ds, ResL _ _ _ ds ∧ RV.of ds = _
    refine ⟨[.sl 1 (List.map rS ((srtS ((pn (kn t) s c (kn t).length)))))], (.cons (.tmp rfl (.d _)) .nil), ?_⟩
    rfl
set_option maxHeartbeats 4000000 in
set_option maxRecDepth 100000 in
theorem ptsR (t : Tpg) (s : ByteArray) (c : Int) : Ctr Tryz.prog 11 [.ag (eTpg t), .fl (.string s), .fl (.int .i64 c)] (.d (.sl 1 (List.map rS (srtS (pn (kn t) s c (kn t).length))))) := by
  refine ctr (n := 42) (rs := #[.tmp 6]) (L := [(0, .d (.ag (eTpg t))), (1, .d (.fl (.string s))), (2, .d (.fl (.int .i64 c)))]) Tryz.func11 rfl rfl rfl rfl rfl (fun w0 U0 => ?_)
  refine a_rseq ?_
  have hkl := kn_len t
  have hkd : (kn t).length = (vT t).net.pts.length := rfl
  refine rg_nam (d := 3) (v := .pt 101 0) (m := 101) (nw := [(101, .bx 28 (eTpg t))]) rfl (og rfl (of_eff (op_box 101 rfl rfl rfl rfl) rfl)) rfl ?_
  refine rg_put (d := 6) (v := .d (.fl (.slice none 0 0))) rfl (og rfl (op_assign rfl rfl rfl)) ?_
  refine rg_done rfl ?_
  refine a_rseq ?_
  refine rg_put (d := 11) (v := .d (.ag (eTpg t))) rfl (og rfl (of_eff (s_load_pts rfl Tryz.underlying28 rfl ti28 rfl rfl rfl rfl) rfl)) ?_
  refine rg_put (d := 12) (v := .d (.ag (eTpg (vT t)))) rfl (og rfl (op_call rfl Tryz.func16 nm16 rfl (.cons rfl (.d _) .nil) (valid_t t) rfl)) ?_
  refine rg_nam (d := 7) (v := .pt 102 0) (m := 102) (nw := [(102, .bx 28 [.fl (.slice none 0 0), .fl (.slice none 0 0), .fl (.slice none 0 0)])]) rfl (og rfl (of_eff (s_alloc 102 rfl ti28 (by kernel_rfl) rfl) rfl)) rfl ?_
  refine rg_sto (nw := [(102, .bx 28 ((eTpg (vT t))))]) rfl (og rfl (of_eff (s_store rfl rfl ti28 rfl rfl rfl rfl rfl rfl) rfl)) ?_
  refine rg_done rfl ?_
  refine a_rseq ?_
  refine rg_put (d := 8) (v := .d (.fl (.slice none 0 0))) rfl (og rfl (op_assign rfl rfl rfl)) ?_
  refine rg_done rfl ?_
  refine a_seq ?_
  refine a_rseq ?_
  refine rg_imp (imp_nilT 8 103 9 1 rfl rfl) ?_
  refine rg_imp (imp_leakT 8 103 (f := rS) (l := []) rfl rfl) ?_
  refine rg_put (d := 9) (v := .d (.fl (.int .i64 0))) rfl (og rfl (op_assign rfl rfl rfl)) ?_
  refine rg_done rfl ?_
  refine a_block ?_
  refine a_loop (ι := Nat) (fun k => SS [(0, .d (.ag (eTpg t))), (1, .d (.fl (.string s))), (2, .d (.fl (.int .i64 c))), (3, .pt 101 0), (6, .d (.fl (.slice none 0 0))), (7, .pt 102 0), (9, .d (.fl (.int .i64 (k : Int)))), (8, .d (.sl 1 (List.map rS ((srtS (pn (kn t) s c k))))))] [(101, .bx 28 (eTpg t)), (102, .bx 28 ((eTpg (vT t))))]) (fun k => k ≤ (kn t).length) (fun k => (kn t).length - k) 0 (by omega) (imp_forget rfl ⟨rfl, rfl, rfl, rfl, rfl, rfl, (by first | rfl | exact ci (by omega) | exact ci (by simp) | exact cd (by simp) | simp), (cd (by rw [show pn (kn t) s c 0 = [] from rfl, srtS_nil])), trivial⟩ ⟨rfl, rfl, trivial⟩) (fun k hok => ?_)
  have hk := hok
  refine a_seq ?_
  refine a_rseq ?_
  refine rg_put (d := 13) (v := .d (.fl (.int .i64 (k : Int)))) rfl (og rfl (op_move rfl rfl rfl)) ?_
  refine rg_put (d := 14) (v := .pt 102 0) rfl (og rfl (of_eff (s_field_pt rfl Tryz.underlying28 rfl ti25 rfl rfl rfl) rfl)) ?_
  refine rg_put (d := 15) (v := .pt 102 0) rfl (og rfl (of_eff (s_field_pt rfl Tryz.underlying25 rfl ti22 rfl rfl rfl) rfl)) ?_
  refine rg_put (d := 16) (v := .d (.sl 3 (List.map ePnt (((vT t).net).pts)))) rfl (og rfl (op_load_pt rfl Tryz.underlying22 rfl rfl rfl rfl rfl)) ?_
  refine rg_put (d := 17) (v := .d (.fl (.int .i64 (((((vT t).net).pts).length : Int))))) rfl (og rfl (s_len rfl Tryz.underlying22 rfl rfl)) ?_
  refine rg_put (d := 18) (v := .d (.fl (.bool ((decide ((k : Int) < ((((vT t).net).pts).length : Int))))))) rfl (og rfl (op_bin rfl rfl rfl (b_lss _ _ _ _) rfl)) ?_
  refine rg_done rfl ?_
  refine a_cond rfl (fun h1 => ?_) (fun h1 => ?_)
  · skip
    have h2 := t_dec h1
    refine a_skip ?_
    show A _ _ _ _ _ _ _
    refine a_seq ?_
    refine a_block ?_
    refine a_rseq ?_
    refine rg_put (d := 21) (v := .pt 102 0) rfl (og rfl (of_eff (s_field_pt rfl Tryz.underlying28 rfl ti25 rfl rfl rfl) rfl)) ?_
    refine rg_put (d := 22) (v := .pt 102 0) rfl (og rfl (of_eff (s_field_pt rfl Tryz.underlying25 rfl ti22 rfl rfl rfl) rfl)) ?_
    refine rg_put (d := 23) (v := .d (.sl 3 (List.map ePnt (((vT t).net).pts)))) rfl (og rfl (op_load_pt rfl Tryz.underlying22 rfl rfl rfl rfl rfl)) ?_
    refine rg_put (d := 24) (v := .d (.fl (.int .i64 (k : Int)))) rfl (og rfl (op_move rfl rfl rfl)) ?_
    refine rg_put (d := 25) (v := .el ((ePnt ((ix (((vT t).net).pts) k))))) rfl (og rfl (s_index rfl Tryz.underlying22 ti42 rfl rfl (by omega) (row_at (by omega)) rfl)) ?_
    refine rg_put (d := 26) (v := .d (.ag (ePnt (((ix (((vT t).net).pts) k)))))) rfl (og rfl (of_eff (s_load_els rfl Tryz.underlying42 rfl ti42 rfl rfl rfl) rfl)) ?_
    refine rg_nam (d := 10) (v := .pt 104 0) (m := 104) (nw := [(104, .bx 42 ([.fl (.string (⟨#[]⟩)), .fl (.int .i64 0), .fl (.string (⟨#[]⟩))]))]) rfl (og rfl (of_eff (s_alloc 104 rfl ti42 (by kernel_rfl) rfl) rfl)) rfl ?_
    refine rg_sto (nw := [(104, .bx 42 ((ePnt (((ix (((vT t).net).pts) k))))))]) rfl (og rfl (of_eff (s_store rfl rfl ti42 rfl rfl rfl rfl rfl rfl) rfl)) ?_
    refine rg_done rfl ?_
    refine a_rseq ?_
    have hk1 : k < (kn t).length := by omega
    refine rg_put (d := 27) (v := .pt 104 2) rfl (og rfl (of_eff (s_field_pt rfl Tryz.underlying42 rfl ti9 rfl rfl rfl) rfl)) ?_
    refine rg_put (d := 28) (v := .d (.fl (.string ((((ix (((vT t).net).pts) k))).sys)))) rfl (og rfl (op_load_pt rfl Tryz.underlying9 rfl rfl rfl rfl rfl)) ?_
    refine rg_put (d := 29) (v := .d (.fl (.string s))) rfl (og rfl (op_move rfl rfl rfl)) ?_
    refine rg_put (d := 30) (v := .d (.fl (.bool ((sEq ((((ix (((vT t).net).pts) k))).sys) s))))) rfl (og rfl (op_bin rfl rfl rfl (b_seq _ _ _) rfl)) ?_
    refine rg_put (d := 31) (v := .d (.fl (.bool ((sEq ((((ix (((vT t).net).pts) k))).sys) s))))) rfl (og rfl (op_move rfl rfl rfl)) ?_
    rcases fot ((sEq ((((ix (((vT t).net).pts) k))).sys) s)) with h3 | h3
    · skip
      refine rg_put (d := 32) (v := .d (.fl undef)) rfl (on rfl rfl rfl h3) ?_
      refine rg_put (d := 33) (v := .d (.fl undef)) rfl (on rfl rfl rfl h3) ?_
      refine rg_put (d := 34) (v := .d (.fl undef)) rfl (on rfl rfl rfl h3) ?_
      refine rg_put (d := 35) (v := .d (.fl undef)) rfl (on rfl rfl rfl h3) ?_
      refine rg_put (d := 36) (v := .d (.fl (.bool false))) rfl (og rfl (op_pick rfl rfl (by rw [h3]; rfl) rfl)) ?_
      refine rg_done rfl ?_
      refine a_condF rfl rfl ?_
      refine a_skip ?_
      show A _ _ _ _ _ _ _
      refine a_region ?_
      refine rg_put (d := 19) (v := .d (.fl (.int .i64 (k : Int)))) rfl (og rfl (op_move rfl rfl rfl)) ?_
      refine rg_put (d := 20) (v := .d (.fl (.int .i64 (((k : Int) + 1))))) rfl (og rfl (op_bin rfl rfl rfl (fun x y w => b_add64 _ _ _ x y w (by omega)) rfl)) ?_
      refine rg_put (d := 9) (v := .d (.fl (.int .i64 (((k : Int) + 1))))) rfl (og rfl (op_assign rfl rfl rfl)) ?_
      refine rg_done rfl ?_
      have hst : (srtS (pn (kn t) s c k)) = srtS (pn (kn t) s c (k + 1)) := by rw [← pn_n hk1 (by show (sEq (ix (vT t).net.pts k).sys s && ((ix (vT t).net.pts k).kind == c)) = false; rw [h3]; rfl)]
      show ∃ i, _ ∧ _ ∧ Imp _ _ _ _ _
      refine ⟨k + 1, (by omega), by omega, imp_forget rfl ⟨rfl, rfl, rfl, rfl, rfl, rfl, (by first | rfl | exact ci (by omega)), (cd (congrArg (fun z => DV.sl 1 (List.map rS z)) hst)), trivial⟩ ⟨rfl, rfl, trivial⟩⟩
    · skip
      refine rg_put (d := 32) (v := .pt 104 1) rfl (oy rfl rfl rfl h3 (of_eff (s_field_pt rfl Tryz.underlying42 rfl ti3 rfl rfl rfl) rfl)) ?_
      refine rg_put (d := 33) (v := .d (.fl (.int .i64 ((((ix (((vT t).net).pts) k))).kind)))) rfl (oy rfl rfl rfl h3 (op_load_pt rfl Tryz.underlying3 rfl rfl rfl rfl rfl)) ?_
      refine rg_put (d := 34) (v := .d (.fl (.int .i64 c))) rfl (oy rfl rfl rfl h3 (op_move rfl rfl rfl)) ?_
      refine rg_put (d := 35) (v := .d (.fl (.bool (((((ix (((vT t).net).pts) k))).kind == c))))) rfl (oy rfl rfl rfl h3 (op_bin rfl rfl rfl (b_eql _ _ _ _) rfl)) ?_
      refine rg_put (d := 36) (v := .d (.fl (.bool (((((ix (((vT t).net).pts) k))).kind == c))))) rfl (og rfl (op_pick rfl rfl (by rw [h3]; rfl) rfl)) ?_
      refine rg_done rfl ?_
      refine a_cond rfl (fun h4 => ?_) (fun h4 => ?_)
      · skip
        have h5 := t_beq h4
        refine a_region ?_
        refine rg_put (d := 37) (v := .d (.sl 1 (List.map rS ((srtS (pn (kn t) s c k)))))) rfl (og rfl (op_move rfl rfl rfl)) ?_
        refine rg_put (d := 38) (v := .pt 104 0) rfl (og rfl (of_eff (s_field_pt rfl Tryz.underlying42 rfl ti9 rfl rfl rfl) rfl)) ?_
        refine rg_put (d := 39) (v := .d (.fl (.string ((((ix (((vT t).net).pts) k))).name)))) rfl (og rfl (op_load_pt rfl Tryz.underlying9 rfl rfl rfl rfl rfl)) ?_
        refine rg_put (d := 40) (v := .d (.sl 1 (List.map rS ((insT ((srtS (pn (kn t) s c k))) ((((ix (((vT t).net).pts) k))).name)))))) rfl (og rfl (op_call rfl Tryz.func20 nm20 rfl (.cons rfl (.d _) (.cons rfl (.d _) .nil)) (insC ((srtS (pn (kn t) s c k))) ((((ix (((vT t).net).pts) k))).name) (by have := srtS_len (pn (kn t) s c k); have := pn_len (kn t) s c k; omega) (fun y hy => pn_sz y ((srtS_perm _).subset hy)) (kn_name hk1).1) rfl)) ?_
        refine rg_put (d := 8) (v := .d (.sl 1 (List.map rS ((insT ((srtS (pn (kn t) s c k))) ((((ix (((vT t).net).pts) k))).name)))))) rfl (og rfl (op_assign rfl rfl rfl)) ?_
        refine rg_done rfl ?_
        show A _ _ _ _ _ _ _
        refine a_region ?_
        refine rg_put (d := 19) (v := .d (.fl (.int .i64 (k : Int)))) rfl (og rfl (op_move rfl rfl rfl)) ?_
        refine rg_put (d := 20) (v := .d (.fl (.int .i64 (((k : Int) + 1))))) rfl (og rfl (op_bin rfl rfl rfl (fun x y w => b_add64 _ _ _ x y w (by omega)) rfl)) ?_
        refine rg_put (d := 9) (v := .d (.fl (.int .i64 (((k : Int) + 1))))) rfl (og rfl (op_assign rfl rfl rfl)) ?_
        refine rg_done rfl ?_
        have hst : (insT ((srtS (pn (kn t) s c k))) ((((ix (((vT t).net).pts) k))).name)) = srtS (pn (kn t) s c (k + 1)) := by rw [insT_srt, show (ix (vT t).net.pts k).name = (ix (kn t) k).name from rfl, pn_new hk1, ← pn_y hk1 (by show (sEq (ix (vT t).net.pts k).sys s && ((ix (vT t).net.pts k).kind == c)) = true; rw [h3, h4]; rfl)]; rfl
        show ∃ i, _ ∧ _ ∧ Imp _ _ _ _ _
        refine ⟨k + 1, (by omega), by omega, imp_forget rfl ⟨rfl, rfl, rfl, rfl, rfl, rfl, (by first | rfl | exact ci (by omega)), (cd (congrArg (fun z => DV.sl 1 (List.map rS z)) hst)), trivial⟩ ⟨rfl, rfl, trivial⟩⟩
      · skip
        have h6 := f_beq h4
        refine a_skip ?_
        show A _ _ _ _ _ _ _
        refine a_region ?_
        refine rg_put (d := 19) (v := .d (.fl (.int .i64 (k : Int)))) rfl (og rfl (op_move rfl rfl rfl)) ?_
        refine rg_put (d := 20) (v := .d (.fl (.int .i64 (((k : Int) + 1))))) rfl (og rfl (op_bin rfl rfl rfl (fun x y w => b_add64 _ _ _ x y w (by omega)) rfl)) ?_
        refine rg_put (d := 9) (v := .d (.fl (.int .i64 (((k : Int) + 1))))) rfl (og rfl (op_assign rfl rfl rfl)) ?_
        refine rg_done rfl ?_
        have hst : (srtS (pn (kn t) s c k)) = srtS (pn (kn t) s c (k + 1)) := by rw [← pn_n hk1 (by show (sEq (ix (vT t).net.pts k).sys s && ((ix (vT t).net.pts k).kind == c)) = false; rw [h3, h4]; rfl)]
        show ∃ i, _ ∧ _ ∧ Imp _ _ _ _ _
        refine ⟨k + 1, (by omega), by omega, imp_forget rfl ⟨rfl, rfl, rfl, rfl, rfl, rfl, (by first | rfl | exact ci (by omega)), (cd (congrArg (fun z => DV.sl 1 (List.map rS z)) hst)), trivial⟩ ⟨rfl, rfl, trivial⟩⟩
  · skip
    have h7 := f_dec h1
    refine a_exit ?_
    show A _ _ _ _ _ _ _
    refine a_rseq ?_
    refine rg_put (d := 41) (v := .d (.sl 1 (List.map rS ((srtS (pn (kn t) s c k)))))) rfl (og rfl (op_move rfl rfl rfl)) ?_
    refine rg_put (d := 6) (v := .d (.sl 1 (List.map rS ((srtS (pn (kn t) s c k)))))) rfl (og rfl (op_assign rfl rfl rfl)) ?_
    refine rg_done rfl ?_
    refine a_ret ?_
    show ∃ ds, ResL _ _ _ ds ∧ RV.of ds = _
    refine ⟨[.sl 1 (List.map rS ((srtS (pn (kn t) s c k))))], (.cons (.tmp rfl (.d _)) .nil), ?_⟩
    rw [show (kn t).length = k from by omega]; rfl
def smlT (t : Tpg) : Bool := (decide ((t.net.pts.length : Int) ≤ 12) && decide ((t.net.lks.length : Int) ≤ 30)) && decide ((t.syss.length : Int) ≤ 100)
set_option maxHeartbeats 4000000 in
set_option maxRecDepth 100000 in
theorem smlC (t : Tpg) : Ctr Tryz.prog 4 [.ag (eTpg t)] (.d (.fl (.bool (smlT t)))) := by
  refine ctr (n := 21) (rs := #[.tmp 2]) (L := [(0, .d (.ag (eTpg t)))]) Tryz.func4 rfl rfl rfl rfl rfl (fun w0 U0 => ?_)
  refine a_rseq ?_
  refine rg_nam (d := 1) (v := .pt 101 0) (m := 101) (nw := [(101, .bx 28 (eTpg t))]) rfl (og rfl (of_eff (op_box 101 rfl rfl rfl rfl) rfl)) rfl ?_
  refine rg_put (d := 2) (v := .d (.fl (.bool false))) rfl (og rfl (op_assign rfl rfl rfl)) ?_
  refine rg_done rfl ?_
  refine a_rseq ?_
  refine rg_put (d := 3) (v := .pt 101 0) rfl (og rfl (of_eff (s_field_pt rfl Tryz.underlying28 rfl ti25 rfl rfl rfl) rfl)) ?_
  refine rg_put (d := 4) (v := .pt 101 0) rfl (og rfl (of_eff (s_field_pt rfl Tryz.underlying25 rfl ti22 rfl rfl rfl) rfl)) ?_
  refine rg_put (d := 5) (v := .d (.sl 3 (List.map ePnt t.net.pts))) rfl (og rfl (op_load_pt rfl Tryz.underlying22 rfl rfl rfl rfl rfl)) ?_
  refine rg_put (d := 6) (v := .d (.fl (.int .i64 (t.net.pts.length : Int)))) rfl (og rfl (s_len rfl Tryz.underlying22 rfl rfl)) ?_
  refine rg_put (d := 7) (v := .d (.fl (.bool ((decide ((t.net.pts.length : Int) ≤ 12)))))) rfl (og rfl (op_bin rfl rfl rfl (b_leq _ _ _ _) rfl)) ?_
  refine rg_put (d := 8) (v := .d (.fl (.bool ((decide ((t.net.pts.length : Int) ≤ 12)))))) rfl (og rfl (op_move rfl rfl rfl)) ?_
  rcases fot ((decide ((t.net.pts.length : Int) ≤ 12))) with h1 | h1
  · skip
    have h2 := f_dec h1
    refine rg_put (d := 9) (v := .d (.fl undef)) rfl (on rfl rfl rfl h1) ?_
    refine rg_put (d := 10) (v := .d (.fl undef)) rfl (on rfl rfl rfl h1) ?_
    refine rg_put (d := 11) (v := .d (.fl undef)) rfl (on rfl rfl rfl h1) ?_
    refine rg_put (d := 12) (v := .d (.fl undef)) rfl (on rfl rfl rfl h1) ?_
    refine rg_put (d := 13) (v := .d (.fl undef)) rfl (on rfl rfl rfl h1) ?_
    refine rg_put (d := 14) (v := .d (.fl (.bool false))) rfl (og rfl (op_pick rfl rfl (by rw [h1]; rfl) rfl)) ?_
    refine rg_put (d := 15) (v := .d (.fl (.bool false))) rfl (og rfl (op_move rfl rfl rfl)) ?_
    refine rg_put (d := 16) (v := .d (.fl undef)) rfl (on rfl rfl rfl rfl) ?_
    refine rg_put (d := 17) (v := .d (.fl undef)) rfl (on rfl rfl rfl rfl) ?_
    refine rg_put (d := 18) (v := .d (.fl undef)) rfl (on rfl rfl rfl rfl) ?_
    refine rg_put (d := 19) (v := .d (.fl undef)) rfl (on rfl rfl rfl rfl) ?_
    refine rg_put (d := 20) (v := .d (.fl (.bool false))) rfl (og rfl (op_pick rfl rfl rfl rfl)) ?_
    refine rg_put (d := 2) (v := .d (.fl (.bool false))) rfl (og rfl (op_assign rfl rfl rfl)) ?_
    refine rg_done rfl ?_
    refine a_ret ?_
    show ∃ ds, ResL _ _ _ ds ∧ RV.of ds = _
    refine ⟨[.fl (.bool false)], (.cons (.tmp rfl (.d _)) .nil), ?_⟩
    have hu : smlT t = false := by unfold smlT; simp only [h1, Bool.true_or, Bool.false_or, Bool.or_true, Bool.or_false, Bool.not_true, Bool.not_false, cond_true, cond_false, Bool.true_and, Bool.false_and, Bool.and_true, Bool.and_false] <;> rfl
    rw [hu]; rfl
  · skip
    have h3 := t_dec h1
    refine rg_put (d := 9) (v := .pt 101 0) rfl (oy rfl rfl rfl h1 (of_eff (s_field_pt rfl Tryz.underlying28 rfl ti25 rfl rfl rfl) rfl)) ?_
    refine rg_put (d := 10) (v := .pt 101 1) rfl (oy rfl rfl rfl h1 (of_eff (s_field_pt rfl Tryz.underlying25 rfl ti23 rfl rfl rfl) rfl)) ?_
    refine rg_put (d := 11) (v := .d (.sl 4 (List.map eLnk t.net.lks))) rfl (oy rfl rfl rfl h1 (op_load_pt rfl Tryz.underlying23 rfl rfl rfl rfl rfl)) ?_
    refine rg_put (d := 12) (v := .d (.fl (.int .i64 (t.net.lks.length : Int)))) rfl (oy rfl rfl rfl h1 (s_len rfl Tryz.underlying23 rfl rfl)) ?_
    refine rg_put (d := 13) (v := .d (.fl (.bool ((decide ((t.net.lks.length : Int) ≤ 30)))))) rfl (oy rfl rfl rfl h1 (op_bin rfl rfl rfl (b_leq _ _ _ _) rfl)) ?_
    refine rg_put (d := 14) (v := .d (.fl (.bool ((decide ((t.net.lks.length : Int) ≤ 30)))))) rfl (og rfl (op_pick rfl rfl (by rw [h1]; rfl) rfl)) ?_
    refine rg_put (d := 15) (v := .d (.fl (.bool ((decide ((t.net.lks.length : Int) ≤ 30)))))) rfl (og rfl (op_move rfl rfl rfl)) ?_
    rcases fot ((decide ((t.net.lks.length : Int) ≤ 30))) with h4 | h4
    · skip
      have h5 := f_dec h4
      refine rg_put (d := 16) (v := .d (.fl undef)) rfl (on rfl rfl rfl h4) ?_
      refine rg_put (d := 17) (v := .d (.fl undef)) rfl (on rfl rfl rfl h4) ?_
      refine rg_put (d := 18) (v := .d (.fl undef)) rfl (on rfl rfl rfl h4) ?_
      refine rg_put (d := 19) (v := .d (.fl undef)) rfl (on rfl rfl rfl h4) ?_
      refine rg_put (d := 20) (v := .d (.fl (.bool false))) rfl (og rfl (op_pick rfl rfl (by rw [h4]; rfl) rfl)) ?_
      refine rg_put (d := 2) (v := .d (.fl (.bool false))) rfl (og rfl (op_assign rfl rfl rfl)) ?_
      refine rg_done rfl ?_
      refine a_ret ?_
      show ∃ ds, ResL _ _ _ ds ∧ RV.of ds = _
      refine ⟨[.fl (.bool false)], (.cons (.tmp rfl (.d _)) .nil), ?_⟩
      have hu : smlT t = false := by unfold smlT; simp only [h1, h4, Bool.true_or, Bool.false_or, Bool.or_true, Bool.or_false, Bool.not_true, Bool.not_false, cond_true, cond_false, Bool.true_and, Bool.false_and, Bool.and_true, Bool.and_false] <;> rfl
      rw [hu]; rfl
    · skip
      have h6 := t_dec h4
      refine rg_put (d := 16) (v := .pt 101 2) rfl (oy rfl rfl rfl h4 (of_eff (s_field_pt rfl Tryz.underlying28 rfl ti26 rfl rfl rfl) rfl)) ?_
      refine rg_put (d := 17) (v := .d (.sl 3 (List.map eSys t.syss))) rfl (oy rfl rfl rfl h4 (op_load_pt rfl Tryz.underlying26 rfl rfl rfl rfl rfl)) ?_
      refine rg_put (d := 18) (v := .d (.fl (.int .i64 (t.syss.length : Int)))) rfl (oy rfl rfl rfl h4 (s_len rfl Tryz.underlying26 rfl rfl)) ?_
      refine rg_put (d := 19) (v := .d (.fl (.bool ((decide ((t.syss.length : Int) ≤ 100)))))) rfl (oy rfl rfl rfl h4 (op_bin rfl rfl rfl (b_leq _ _ _ _) rfl)) ?_
      refine rg_put (d := 20) (v := .d (.fl (.bool ((decide ((t.syss.length : Int) ≤ 100)))))) rfl (og rfl (op_pick rfl rfl (by rw [h4]; rfl) rfl)) ?_
      refine rg_put (d := 2) (v := .d (.fl (.bool ((decide ((t.syss.length : Int) ≤ 100)))))) rfl (og rfl (op_assign rfl rfl rfl)) ?_
      refine rg_done rfl ?_
      refine a_ret ?_
      show ∃ ds, ResL _ _ _ ds ∧ RV.of ds = _
      refine ⟨[.fl (.bool ((decide ((t.syss.length : Int) ≤ 100))))], (.cons (.tmp rfl (.d _)) .nil), ?_⟩
      have hu : smlT t = (decide ((t.syss.length : Int) ≤ 100)) := by unfold smlT; simp only [h1, h4, Bool.true_or, Bool.false_or, Bool.or_true, Bool.or_false, Bool.not_true, Bool.not_false, cond_true, cond_false, Bool.true_and, Bool.false_and, Bool.and_true, Bool.and_false] <;> rfl
      rw [hu]; rfl
end Go.Proofs.YtlmihhecpaomjaaGreat.Wk
