/- The vote of readings, both sides. Conditions: at most 20 readings of at most 60 bytes. -/
import Derived.Test.YtldglchpaookiaaDoorSs
import Derived.Test.YtldglchpaookiaaDoorAvR
import Derived.Test.YtldglchpaookiaaDoorAvI
import Derived.Test.YtldglchpaookiaaDoorB4
set_option linter.unusedSimpArgs false
set_option linter.unusedVariables false
namespace Go.Proofs.YtldglchpaookiaaDoor.Wk
open Go Go.RowKit Go.Proofs.YtldglchpaookiaaDoor.Av
theorem ix_eq {α : Type} [Inhabited α] {l : List α} {i : Nat} (h : i < l.length) : l[i] = ix l i := by
  have := ix_get h
  rw [List.getElem?_eq_getElem h] at this
  injection this
theorem ix_mem {α : Type} [Inhabited α] {l : List α} {k : Nat} (h : k < l.length) : ix l k ∈ l := by rw [← ix_eq h]; exact List.getElem_mem h
theorem mem_ix {α : Type} [Inhabited α] {l : List α} {x : α} (h : x ∈ l) : ∃ k, k < l.length ∧ ix l k = x := by
  obtain ⟨j, hj, he⟩ := List.mem_iff_getElem.1 h
  exact ⟨j, hj, by rw [← ix_eq hj]; exact he⟩
theorem all_no {α : Type} [Inhabited α] {p : α → Bool} {l : List α} {k : Nat} (hk : k < l.length) (h : p (ix l k) = false) : l.all p = false := by
  rw [List.all_eq_false]; exact ⟨_, ix_mem hk, by rw [h]; simp⟩
theorem all_yes {α : Type} [Inhabited α] {p : α → Bool} {l : List α} (h : ∀ q, q < l.length → p (ix l q) = true) : l.all p = true := by
  rw [List.all_eq_true]
  intro x hx
  obtain ⟨k, hk, he⟩ := mem_ix hx
  rw [← he]; exact h k hk



theorem less_at : ∀ (x y : List UInt8) (k : Nat), k < x.length → k < y.length → (∀ q, q < k → x.getD q 0 = y.getD q 0) → x.getD k 0 ≠ y.getD k 0 → Op.bytesLess x y = decide (x.getD k 0 < y.getD k 0)
  | [], _, _, h, _, _, _ => by simp at h
  | _ :: _, [], _, _, h, _, _ => by simp at h
  | a :: x, b :: y, 0, _, _, _, h => by
    have h' : a ≠ b := by simpa using h
    simp [Op.bytesLess, h']
  | a :: x, b :: y, k + 1, h1, h2, h3, h4 => by
    have e : a = b := by simpa using h3 0 (by omega)
    subst e
    have ih := less_at x y k (by simpa using h1) (by simpa using h2) (fun q hq => by simpa using h3 (q + 1) (by omega)) (by simpa using h4)
    simp [Op.bytesLess, ih, UInt8.lt_irrefl]
theorem less_end : ∀ (x y : List UInt8), (∀ q, q < x.length → q < y.length → x.getD q 0 = y.getD q 0) → Op.bytesLess x y = decide (x.length < y.length)
  | [], [], _ => by simp [Op.bytesLess]
  | [], _ :: _, _ => by simp [Op.bytesLess]
  | _ :: _, [], _ => by simp [Op.bytesLess]
  | a :: x, b :: y, h => by
    have e : a = b := by simpa using h 0 (by simp) (by simp)
    subst e
    have ih := less_end x y (fun q h1 h2 => by simpa using h (q + 1) (by simpa using h1) (by simpa using h2))
    simp [Op.bytesLess, ih, UInt8.lt_irrefl]
theorem dlen (s : ByteArray) : s.data.toList.length = s.size := by simp
theorem bef_at {a b : ByteArray} {k : Nat} (h1 : k < a.size) (h2 : k < b.size) (hq : ∀ q, q < k → bt a q = bt b q) (h : bt a k ≠ bt b k) : sLt a b = decide (((bt a k).toNat : Int) < ((bt b k).toNat : Int)) := by
  unfold sLt
  rw [ByteArray.toList_eq, ByteArray.toList_eq, less_at a.data.toList b.data.toList k (by rw [dlen]; exact h1) (by rw [dlen]; exact h2) hq h]
  show decide (bt a k < bt b k) = _
  rw [decide_eq_decide, UInt8.lt_iff_toNat_lt]
  omega
theorem bef_end {a b : ByteArray} {k : Nat} (h : ¬ (k < a.size ∧ k < b.size)) (hq : ∀ q, q < k → bt a q = bt b q) : sLt a b = decide ((a.size : Int) < (b.size : Int)) := by
  unfold sLt
  rw [ByteArray.toList_eq, ByteArray.toList_eq, less_end a.data.toList b.data.toList (fun q h1 h2 => hq q (by rw [dlen] at h1 h2; omega)), dlen, dlen, decide_eq_decide]
  omega
theorem sLt_self (s : ByteArray) : sLt s s = false := by
  rw [bef_end (a := s) (b := s) (k := s.size) (by omega) (fun _ _ => rfl)]
  simp
theorem sLt_ne {s u : ByteArray} (h : sLt s u = true) : sEq s u = false := by
  cases he : sEq s u with
  | false => rfl
  | true => rw [of_decide_eq_true (show decide (s = u) = true from he), sLt_self] at h; cases h
def ic (a b : Int) : Int := bif decide (a < b) then -1 else bif decide (b < a) then 1 else 0
def sc (s u : ByteArray) : Int := bif sEq s u then 0 else bif sLt s u then -1 else 1
theorem sc_lt {s u : ByteArray} (h : sLt s u = true) : sc s u = -1 := by unfold sc; rw [sLt_ne h, h]; rfl
def fz : List Int → Int
  | [] => 0
  | x :: l => bif x != 0 then x else fz l
theorem less_anti : ∀ (x y : List UInt8), Op.bytesLess x y = true → Op.bytesLess y x = false
  | [], [], h => by simp [Op.bytesLess] at h
  | [], _ :: _, _ => by simp [Op.bytesLess]
  | _ :: _, [], h => by simp [Op.bytesLess] at h
  | a :: x, b :: y, h => by
    simp only [Op.bytesLess, Bool.or_eq_true, decide_eq_true_eq, Bool.and_eq_true, beq_iff_eq] at h
    simp only [Op.bytesLess, Bool.or_eq_false_iff, decide_eq_false_iff_not, Bool.and_eq_false_iff]
    rcases h with h | ⟨rfl, h⟩
    · refine ⟨fun h2 => UInt8.lt_irrefl a (UInt8.lt_trans h h2), .inl ?_⟩
      simp only [beq_eq_false_iff_ne]
      intro e; subst e; exact UInt8.lt_irrefl _ h
    · exact ⟨UInt8.lt_irrefl a, .inr (less_anti x y h)⟩
theorem less_tot : ∀ (x y : List UInt8), Op.bytesLess x y = false → x ≠ y → Op.bytesLess y x = true
  | [], [], _, h => absurd rfl h
  | [], _ :: _, h, _ => by simp [Op.bytesLess] at h
  | _ :: _, [], _, _ => by simp [Op.bytesLess]
  | a :: x, b :: y, h, hn => by
    simp only [Op.bytesLess, Bool.or_eq_false_iff, decide_eq_false_iff_not, Bool.and_eq_false_iff] at h
    simp only [Op.bytesLess, Bool.or_eq_true, decide_eq_true_eq, Bool.and_eq_true, beq_iff_eq]
    by_cases e : a = b
    · subst e
      refine .inr ⟨rfl, less_tot x y ?_ (fun e => hn (by rw [e]))⟩
      rcases h.2 with h2 | h2
      · simp at h2
      · exact h2
    · left
      rcases UInt8.lt_or_lt_of_ne e with h2 | h2
      · exact absurd h2 h.1
      · exact h2
theorem less_tr : ∀ (x y z : List UInt8), Op.bytesLess x y = true → Op.bytesLess y z = true → Op.bytesLess x z = true
  | _, [], _, h, _ => by cases ‹List UInt8› <;> simp [Op.bytesLess] at h
  | _, _ :: _, [], _, h => by simp [Op.bytesLess] at h
  | [], _ :: _, _ :: _, _, _ => by simp [Op.bytesLess]
  | a :: x, b :: y, c :: z, h1, h2 => by
    simp only [Op.bytesLess, Bool.or_eq_true, decide_eq_true_eq, Bool.and_eq_true, beq_iff_eq] at h1 h2 ⊢
    rcases h1 with h1 | ⟨rfl, h1⟩
    · rcases h2 with h2 | ⟨rfl, h2⟩
      · exact .inl (UInt8.lt_trans h1 h2)
      · exact .inl h1
    · rcases h2 with h2 | ⟨rfl, h2⟩
      · exact .inl h2
      · exact .inr ⟨rfl, less_tr x y z h1 h2⟩
theorem sEq_t {s u : ByteArray} (h : sEq s u = true) : s = u := of_decide_eq_true h
theorem sEq_f {s u : ByteArray} (h : sEq s u = false) : s.toList ≠ u.toList := fun e => by
  have := toList_sEq s u
  rw [e] at this
  rw [h] at this; simp at this
theorem sLt_anti {s u : ByteArray} (h : sLt s u = true) : sLt u s = false := less_anti _ _ h
theorem sLt_tot {s u : ByteArray} (h : sLt s u = false) (h2 : sEq s u = false) : sLt u s = true := less_tot _ _ h (sEq_f h2)
theorem sc_cases (s u : ByteArray) : (sc s u = 0 ∧ s = u) ∨ (sc s u = -1 ∧ sLt s u = true ∧ s ≠ u) ∨ (sc s u = 1 ∧ sLt u s = true ∧ s ≠ u) := by
  unfold sc
  cases h : sEq s u with
  | true => exact .inl ⟨rfl, sEq_t h⟩
  | false =>
    have hn : s ≠ u := fun e => by rw [e] at h; unfold sEq at h; simp at h
    cases h2 : sLt s u with
    | true => exact .inr (.inl ⟨rfl, rfl, hn⟩)
    | false => exact .inr (.inr ⟨rfl, sLt_tot h2 h, hn⟩)
def Neg (x y : Int) : Prop := x = -y
def Tq (x y z : Int) : Prop := x ≤ 0 → y ≤ 0 → z ≤ 0 ∧ (z < 0 ↔ x < 0 ∨ y < 0)
theorem sc_neg (s u : ByteArray) : sc s u = -(sc u s) := by
  rcases sc_cases s u with ⟨h, e⟩ | ⟨h, l, n⟩ | ⟨h, l, n⟩ <;> rcases sc_cases u s with ⟨h', e'⟩ | ⟨h', l', n'⟩ | ⟨h', l', n'⟩ <;> rw [h, h'] <;>
    first
      | rfl
      | exact absurd e'.symm n
      | exact absurd e.symm n'
      | (have := sLt_anti l; rw [l'] at this; cases this)
theorem sc_tq (s u v : ByteArray) : Tq (sc s u) (sc u v) (sc s v) := by
  intro h1 h2
  rcases sc_cases s u with ⟨h, e⟩ | ⟨h, l, n⟩ | ⟨h, l, n⟩
  · rw [e] at h ⊢
    rw [h]; omega
  · rcases sc_cases u v with ⟨h', e'⟩ | ⟨h', l', n'⟩ | ⟨h', l', n'⟩
    · subst e'
      rw [h', h]; omega
    · have hl : sLt s v = true := less_tr _ _ _ l l'
      rw [sc_lt hl, h, h']; omega
    · omega
  · omega
inductive T3 : List Int → List Int → List Int → Prop
  | nil : T3 [] [] []
  | cons {x y z : Int} {l m n : List Int} (h : Tq x y z) (hs : T3 l m n) : T3 (x :: l) (y :: m) (z :: n)
def inD (u : List ByteArray) (s : ByteArray) : Nat → Bool
  | 0 => false
  | k + 1 => inD u s k || sLt s (ix u k)
def inO (u : List ByteArray) (s : ByteArray) : Nat → List ByteArray
  | 0 => []
  | k + 1 => (bif !(inD u s k) && sLt s (ix u k) then inO u s k ++ [s] else inO u s k) ++ [ix u k]
def insT (u : List ByteArray) (s : ByteArray) : List ByteArray := bif u.any (fun y => sEq y s) then u else bif inD u s u.length then inO u s u.length else inO u s u.length ++ [s]
theorem sc_of_le {y z : ByteArray} (h : y.data.toList ≤ z.data.toList) : sc y z ≤ 0 := by
  rcases sc_cases y z with ⟨e, _⟩ | ⟨e, _⟩ | ⟨e, h2, _⟩
  · omega
  · omega
  · exfalso
    unfold sLt at h2
    rw [ByteArray.toList_eq, ByteArray.toList_eq, Go.Proofs.bytesLess_eq, decide_eq_true_eq] at h2
    exact absurd h2 (List.not_lt.2 h)
theorem srtS_pw (l : List ByteArray) : (srtS l).Pairwise (fun y z => sc y z ≤ 0) := by
  unfold srtS
  rw [List.pairwise_map]
  exact (leK_sorted _).imp (fun h => sc_of_le h)
theorem sc_0 {y z : ByteArray} (h : sc y z = 0) : y = z := by rcases sc_cases y z with q | q | q <;> first | exact q.2 | omega
theorem srtS_eq {u w : List ByteArray} (hp : u.Perm w) (hs : u.Pairwise (fun y z => sc y z ≤ 0)) : u = srtS w :=
  perm_uniqL (fun y z h1 h2 => sc_0 (by have := sc_neg y z; omega)) (hp.trans (srtS_perm w).symm) hs (srtS_pw w)
theorem le_of_nlt {y z : ByteArray} (h : sLt y z = false) : sc z y ≤ 0 := by
  rcases sc_cases y z with q | q | q
  · have := sc_neg z y; omega
  · rw [q.2.1] at h; cases h
  · have := sc_neg z y; omega
theorem le_of_lt {y z : ByteArray} (h : sLt y z = true) : sc y z ≤ 0 := by
  rcases sc_cases y z with q | q | q
  · omega
  · omega
  · rw [sLt_anti q.2.1] at h; cases h
theorem srtS_len (l : List ByteArray) : (srtS l).length = l.length := (srtS_perm l).length_eq
def adS (w : List ByteArray) (s : ByteArray) : List ByteArray := bif w.any (fun y => sEq y s) then w else w ++ [s]
theorem adS_y {w : List ByteArray} {s : ByteArray} (h : w.any (fun y => sEq y s) = true) : adS w s = w := by simp only [adS, h, cond_true]
theorem adS_n {w : List ByteArray} {s : ByteArray} (h : w.any (fun y => sEq y s) = false) : adS w s = w ++ [s] := by simp only [adS, h, cond_false]
theorem adS_len (w : List ByteArray) (s : ByteArray) : (adS w s).length ≤ w.length + 1 := by
  unfold adS
  cases w.any (fun y => sEq y s) <;> simp
theorem adS_mem {w : List ByteArray} {s x : ByteArray} : x ∈ adS w s ↔ x ∈ w ∨ x = s := by
  cases h : w.any (fun y => sEq y s) with
  | true =>
    rw [adS_y h]
    obtain ⟨y, hy, he⟩ := List.any_eq_true.1 h
    exact ⟨.inl, fun hx => hx.elim id (fun e => by rw [e, ← sEq_eq he]; exact hy)⟩
  | false => rw [adS_n h]; simp
theorem adS_nd {w : List ByteArray} {s : ByteArray} (hn : w.Nodup) : (adS w s).Nodup := by
  cases h : w.any (fun y => sEq y s) with
  | true => rw [adS_y h]; exact hn
  | false =>
    rw [adS_n h]
    refine List.nodup_append.2 ⟨hn, by simp, fun a ha b hb e => ?_⟩
    rw [List.mem_singleton] at hb
    exact List.any_eq_false.1 h a ha (sEq_of (e.trans hb))
def setV (l : List ByteArray) : List (Value × DV) := l.map fun s => (Value.string s, DV.fl (.bool true))
theorem mfind_mapS {α : Type} (key : α → ByteArray) (val : α → DV) (p : ByteArray) : ∀ l : List α, mfind .string (.string p) (l.map fun x => (Value.string (key x), val x)) = some ((l.find? fun x => sEq (key x) p).map val)
  | [] => rfl
  | x :: l => by
    have ih := mfind_mapS key val p l
    have hb : Instr.sameNow .string (.string p) (.string (key x)) = some (sEq (key x) p) := by
      show some (p == key x) = _
      congr 1
      by_cases h : p = key x
      · rw [← h, show sEq p p = true by simp [sEq]]
        exact (MapKept.bytes_beq p p).2 rfl
      · rw [show sEq (key x) p = false from by simp [sEq, Ne.symm h]]
        cases hq : p == key x with
        | false => rfl
        | true => exact absurd ((MapKept.bytes_beq p (key x)).1 hq) h
    simp only [List.map_cons, mfind, hb]
    cases h : sEq (key x) p with
    | true => simp [h]
    | false => simp [h]; exact ih

theorem same_s (p q : ByteArray) : Instr.sameNow .string (.string p) (.string q) = some (sEq q p) := by
  show some (p == q) = _
  congr 1
  by_cases h : p = q
  · rw [← h, show sEq p p = true by simp [sEq]]
    exact (MapKept.bytes_beq p p).2 rfl
  · rw [show sEq q p = false from by simp [sEq, Ne.symm h]]
    cases hq : p == q with
    | false => rfl
    | true => exact absurd ((MapKept.bytes_beq p q).1 hq) h
theorem mput_map (p : ByteArray) (d : DV) (v v' : ByteArray → DV) (hv : v' p = d) (ho : ∀ s, s ≠ p → v' s = v s) : ∀ l : List ByteArray, l.Nodup → p ∈ l → mput .string (.string p) d (l.map fun s => (Value.string s, v s)) = l.map fun s => (Value.string s, v' s)
  | [], _, h => by cases h
  | x :: l, hn, h => by
    rw [List.nodup_cons] at hn
    have hb := same_s p x
    show (match Instr.sameNow .string (.string p) (.string x) with
      | some true => _
      | _ => _) = _
    rw [hb]
    cases hx : sEq x p with
    | true =>
      have e := sEq_eq hx
      subst e
      show (Value.string x, d) :: _ = _
      rw [List.map_cons, hv]
      congr 1
      exact List.map_congr_left fun y hy => by rw [ho y (fun e => hn.1 (by rw [← e]; exact hy))]
    | false =>
      have hne : x ≠ p := fun e => by rw [e] at hx; simp [sEq] at hx
      have hm : p ∈ l := (List.mem_cons.1 h).resolve_left (fun e => hne e.symm)
      have ih := mput_map p d v v' hv ho l hn.2 hm
      show (Value.string x, v x) :: _ = _
      rw [List.map_cons, ho x hne]
      exact congrArg _ ih
def wt (n : Int) : Int := min (max n 0) 1000
theorem wt_in (n : Int) : 0 ≤ wt n ∧ wt n ≤ 1000 := by unfold wt; omega
def fk (r : List ByteArray) : Nat → List ByteArray
  | 0 => []
  | k + 1 => adS (fk r k) (ix r k)
def sw (r : List ByteArray) (w : List Int) (s : ByteArray) : Nat → Int
  | 0 => 0
  | k + 1 => sw r w s k + (bif sEq (ix r k) s then wt (ix w k) else 0)
def fE (r : List ByteArray) (w : List Int) (k : Nat) (s : ByteArray) : Value × DV := (.string s, .fl (.int .i64 (sw r w s k)))
def entR (r : List ByteArray) (w : List Int) (k : Nat) : List (Value × DV) := (fk r k).map (fE r w k)
theorem sw_y {r : List ByteArray} {w : List Int} {s : ByteArray} {k : Nat} (h : sEq (ix r k) s = true) : sw r w s (k + 1) = sw r w s k + wt (ix w k) := by simp only [sw, h, cond_true]
theorem sw_n {r : List ByteArray} {w : List Int} {s : ByteArray} {k : Nat} (h : sEq (ix r k) s = false) : sw r w s (k + 1) = sw r w s k := by simp only [sw, h, cond_false]; omega
theorem sw_in (r : List ByteArray) (w : List Int) (s : ByteArray) : ∀ k, 0 ≤ sw r w s k ∧ sw r w s k ≤ 1000 * (k : Int)
  | 0 => by simp [sw]
  | k + 1 => by
    have ih := sw_in r w s k
    have := wt_in (ix w k)
    simp only [sw]
    cases sEq (ix r k) s <;> simp only [cond_true, cond_false] <;> omega
theorem fk_nd (r : List ByteArray) : ∀ k, (fk r k).Nodup
  | 0 => List.Pairwise.nil
  | k + 1 => adS_nd (fk_nd r k)
theorem fk_len (r : List ByteArray) : ∀ k, (fk r k).length ≤ k
  | 0 => Nat.le_refl _
  | k + 1 => by
    have := fk_len r k
    have := adS_len (fk r k) (ix r k)
    simp only [fk]; omega
theorem fk_mem {r : List ByteArray} {s : ByteArray} : ∀ k, s ∈ fk r k ↔ ∃ q, q < k ∧ ix r q = s
  | 0 => by simp [fk]
  | k + 1 => by
    simp only [fk]
    rw [adS_mem, fk_mem k]
    constructor
    · rintro (⟨q, h1, h2⟩ | h)
      · exact ⟨q, by omega, h2⟩
      · exact ⟨k, by omega, h.symm⟩
    · rintro ⟨q, h1, h2⟩
      rcases Nat.lt_succ_iff_lt_or_eq.1 h1 with e | e
      · exact .inl ⟨q, e, h2⟩
      · rw [e] at h2; exact .inr h2.symm
theorem sw_0 {r : List ByteArray} {w : List Int} {s : ByteArray} : ∀ {k}, s ∉ fk r k → sw r w s k = 0
  | 0, _ => rfl
  | k + 1, h => by
    have h2 : ¬ (s ∈ fk r k ∨ s = ix r k) := fun q => h (adS_mem.2 q)
    have hne : sEq (ix r k) s = false := by
      cases hq : sEq (ix r k) s with
      | false => rfl
      | true => exact absurd (.inr (sEq_eq hq).symm) h2
    rw [sw_n hne]; exact sw_0 (fun q => h2 (.inl q))
theorem sw_old {r : List ByteArray} {w : List Int} {k : Nat} {s : ByteArray} (h : s ≠ ix r k) : sw r w s (k + 1) = sw r w s k :=
  sw_n (by
    cases hq : sEq (ix r k) s with
    | false => rfl
    | true => exact absurd (sEq_eq hq).symm h)
theorem ent_put {r : List ByteArray} {w : List Int} {k : Nat} (h : (fk r k).any (fun y => sEq y (ix r k)) = true) : mput .string (.string (ix r k)) (.fl (.int .i64 (sw r w (ix r k) k + wt (ix w k)))) (entR r w k) = entR r w (k + 1) := by
  have e : fk r (k + 1) = fk r k := adS_y h
  obtain ⟨y, hy, he⟩ := List.any_eq_true.1 h
  unfold entR
  rw [e]
  exact mput_map _ _ (fun s => .fl (.int .i64 (sw r w s k))) (fun s => .fl (.int .i64 (sw r w s (k + 1)))) (by rw [sw_y (by simp [sEq])]) (fun s hs => by rw [sw_old hs]) _ (fk_nd r k) (by rw [← sEq_eq he]; exact hy)
theorem ent_new {r : List ByteArray} {w : List Int} {k : Nat} (h : (fk r k).any (fun y => sEq y (ix r k)) = false) : entR r w k ++ [(Value.string (ix r k), .fl (.int .i64 (0 + wt (ix w k))))] = entR r w (k + 1) := by
  have e : fk r (k + 1) = fk r k ++ [ix r k] := adS_n h
  have hn : ix r k ∉ fk r k := fun q => by have := List.any_eq_false.1 h _ q; exact this (by simp [sEq])
  unfold entR
  rw [e, List.map_append]
  congr 1
  · exact List.map_congr_left fun s hs => by unfold fE; rw [sw_old (fun e => hn (by rw [← e]; exact hs))]
  · show _ = [fE r w (k + 1) (ix r k)]
    unfold fE
    rw [sw_y (by simp [sEq]), sw_0 hn]
theorem mfindW (r : List ByteArray) (w : List Int) (k : Nat) (p : ByteArray) : mfind .string (.string p) (entR r w k) = some (bif (fk r k).any (fun y => sEq y p) then some (.fl (.int .i64 (sw r w p k))) else none) := by
  have h0 := mfind_mapS (fun x : ByteArray => x) (fun x => DV.fl (.int .i64 (sw r w x k))) p (fk r k)
  refine Eq.trans h0 ?_
  congr 1
  cases h : (fk r k).any (fun y => sEq y p) with
  | false =>
    have : (fk r k).find? (fun y => sEq y p) = none := List.find?_eq_none.2 (fun x hx => List.any_eq_false.1 h x hx)
    rw [this]; rfl
  | true =>
    cases hf : (fk r k).find? (fun y => sEq y p) with
    | none => exact absurd h (by rw [Bool.not_eq_true, List.any_eq_false]; exact List.find?_eq_none.1 hf)
    | some y => have := List.find?_some hf; rw [← sEq_eq this]; rfl
def tc (r : List ByteArray) (w : List Int) (s : ByteArray) : Nat → Int
  | 0 => 0
  | k + 1 => tc r w s k + wt (ix w k) * dst s (ix r k)
def fc (r : List ByteArray) (w : List Int) (s : ByteArray) : Int := tc r w s r.length
theorem dst_nn (a b : ByteArray) : 0 ≤ dst a b ∧ dst a b ≤ 96 := ⟨by unfold dst; exact (dd_in _ _ _ _).2.1, dst_hi a b⟩
theorem mul_in {a b m n : Int} (ha : 0 ≤ a ∧ a ≤ m) (hb : 0 ≤ b ∧ b ≤ n) : 0 ≤ a * b ∧ a * b ≤ m * n := ⟨Int.mul_nonneg ha.1 hb.1, Int.mul_le_mul ha.2 hb.2 hb.1 (by omega)⟩
theorem tc_in (r : List ByteArray) (w : List Int) (s : ByteArray) : ∀ k, 0 ≤ tc r w s k ∧ tc r w s k ≤ 96000 * (k : Int)
  | 0 => by simp [tc]
  | k + 1 => by
    have ih := tc_in r w s k
    have := mul_in (wt_in (ix w k)) (dst_nn s (ix r k))
    simp only [tc]; omega
def sj (r : List ByteArray) (w : List Int) (u : List ByteArray) (s : ByteArray) : Nat → Int
  | 0 => 0
  | k + 1 => sj r w u s k + sw r w (ix u k) r.length * dst (ix u k) s
theorem sj_in (r : List ByteArray) (w : List Int) (u : List ByteArray) (s : ByteArray) (hr : r.length ≤ 20) : ∀ k, 0 ≤ sj r w u s k ∧ sj r w u s k ≤ 1920000 * (k : Int)
  | 0 => by simp [sj]
  | k + 1 => by
    have ih := sj_in r w u s hr k
    have h1 := sw_in r w (ix u k) r.length
    have := mul_in (m := 20000) (by omega : 0 ≤ sw r w (ix u k) r.length ∧ sw r w (ix u k) r.length ≤ 20000) (dst_nn (ix u k) s)
    simp only [sj]; omega
theorem sm_map {α : Type} (f g : α → Int) : ∀ u : List α, (u.map fun a => f a + g a).sum = (u.map f).sum + (u.map g).sum
  | [] => rfl
  | a :: u => by simp only [List.map_cons, List.sum_cons]; rw [sm_map f g u]; omega
theorem sj_sum (r : List ByteArray) (w : List Int) (u : List ByteArray) (s : ByteArray) : ∀ k, k ≤ u.length → sj r w u s k = ((u.take k).map fun x => sw r w x r.length * dst x s).sum
  | 0, _ => by simp [sj]
  | k + 1, hk => by
    rw [take_ix (by omega), List.map_append, List.sum_append, ← sj_sum r w u s k (by omega)]
    simp [sj]
open Classical in
theorem one_x (p s : ByteArray) (c : Int) : ∀ u : List ByteArray, u.Nodup → ((u.map fun x => (bif sEq p x then c else 0) * dst x s).sum = if p ∈ u then c * dst p s else 0)
  | [], _ => by simp
  | a :: u, hn => by
    have ih := one_x p s c u (List.nodup_cons.1 hn).2
    simp only [List.map_cons, List.sum_cons]
    rw [ih]
    cases h : sEq p a with
    | true =>
      have e := sEq_eq h
      have hnm : p ∉ u := by rw [e]; exact (List.nodup_cons.1 hn).1
      rw [if_neg hnm, if_pos (by rw [e]; exact List.mem_cons_self ..), e]; simp
    | false =>
      have hne : p ≠ a := fun e => by rw [e] at h; simp [sEq] at h
      by_cases hm : p ∈ u
      · rw [if_pos hm, if_pos (List.mem_cons_of_mem _ hm)]; simp
      · rw [if_neg hm, if_neg (fun q => (List.mem_cons.1 q).elim hne hm)]; simp
open Classical in
theorem sw_tc (r : List ByteArray) (w : List Int) (u : List ByteArray) (hn : u.Nodup) (s : ByteArray) : ∀ k, (∀ q, q < k → ix r q ∈ u) → ((u.map fun x => sw r w x k * dst x s).sum = tc r w s k)
  | 0, _ => by
    have : ∀ u : List ByteArray, (u.map fun x => sw r w x 0 * dst x s).sum = 0 := fun u => by
      induction u with
      | nil => rfl
      | cons a u ih => simp only [List.map_cons, List.sum_cons, ih]; simp [sw]
    exact this u
  | k + 1, h => by
    have ih := sw_tc r w u hn s k (fun q hq => h q (by omega))
    simp only [sw, tc]
    have h1 := one_x (ix r k) s (wt (ix w k)) u hn
    rw [if_pos (h k (by omega))] at h1
    rw [← ih, dst_sym (ix r k) s, ← h1, ← sm_map]
    congr 1
    exact List.map_congr_left fun x _ => Int.add_mul _ _ _
theorem sj_fc (r : List ByteArray) (w : List Int) (s : ByteArray) : sj r w (srtS (fk r r.length)) s (srtS (fk r r.length)).length = fc r w s := by
  have hp := srtS_perm (fk r r.length)
  rw [sj_sum r w _ s _ (Nat.le_refl _), List.take_length, sw_tc r w _ (hp.symm.nodup (fk_nd _ _)) s _ (fun q hq => hp.symm.subset ((fk_mem _).2 ⟨q, hq, rfl⟩))]
  rfl
structure Bst (r : List ByteArray) (w : List Int) (p : ByteArray × Int) : Prop where
  m : ∃ q, q < r.length ∧ ix r q = p.1
  c : p.2 = fc r w p.1
  l : ∀ q, q < r.length → p.2 < fc r w (ix r q) ∨ (p.2 = fc r w (ix r q) ∧ sc p.1 (ix r q) ≤ 0)
theorem Bst.eq {r : List ByteArray} {w : List Int} {p q : ByteArray × Int} (h : Bst r w p) (k : Bst r w q) : p = q := by
  obtain ⟨i, hi, ei⟩ := h.m
  obtain ⟨j, hj, ej⟩ := k.m
  have h1 := h.l j hj
  have h2 := k.l i hi
  rw [ej] at h1
  rw [ei] at h2
  have hc := h.c
  have kc := k.c
  have e2 : p.2 = q.2 := by omega
  have e3 : sc p.1 q.1 ≤ 0 := by omega
  have e4 : sc q.1 p.1 ≤ 0 := by omega
  have e5 : p.1 = q.1 := sc_0 (by have := sc_neg p.1 q.1; omega)
  exact Prod.ext e5 e2
def pb (f : ByteArray → Int) (u : List ByteArray) : Nat → ByteArray × Int
  | 0 => (⟨#[]⟩, -1)
  | k + 1 => bif decide ((pb f u k).2 < 0) || decide (f (ix u k) < (pb f u k).2) then (ix u k, f (ix u k)) else pb f u k
theorem pb_y {f : ByteArray → Int} {u : List ByteArray} {k : Nat} (h : (pb f u k).2 < 0 ∨ f (ix u k) < (pb f u k).2) : pb f u (k + 1) = (ix u k, f (ix u k)) := by
  have : (decide ((pb f u k).2 < 0) || decide (f (ix u k) < (pb f u k).2)) = true := by rw [Bool.or_eq_true, decide_eq_true_eq, decide_eq_true_eq]; exact h
  simp only [pb, this, cond_true]
theorem pb_n {f : ByteArray → Int} {u : List ByteArray} {k : Nat} (h : ¬ (pb f u k).2 < 0 ∧ ¬ f (ix u k) < (pb f u k).2) : pb f u (k + 1) = pb f u k := by
  have : (decide ((pb f u k).2 < 0) || decide (f (ix u k) < (pb f u k).2)) = false := by rw [Bool.or_eq_false_iff, decide_eq_false_iff_not, decide_eq_false_iff_not]; exact h
  simp only [pb, this, cond_false]
theorem pb_inv {f : ByteArray → Int} (hf : ∀ s, 0 ≤ f s) {u : List ByteArray} (hu : u.Pairwise fun y z => sc y z ≤ 0) : ∀ k, k < u.length → (∃ q, q ≤ k ∧ ix u q = (pb f u (k + 1)).1) ∧ (pb f u (k + 1)).2 = f (pb f u (k + 1)).1 ∧ ∀ j, j ≤ k → (pb f u (k + 1)).2 < f (ix u j) ∨ ((pb f u (k + 1)).2 = f (ix u j) ∧ sc (pb f u (k + 1)).1 (ix u j) ≤ 0)
  | 0, hk => by
    rw [pb_y (.inl (by simp [pb]))]
    refine ⟨⟨0, by omega, rfl⟩, rfl, fun j hj => .inr ?_⟩
    have : j = 0 := by omega
    subst this
    exact ⟨rfl, by rw [show sc (ix u 0) (ix u 0) = 0 from by have := sc_neg (ix u 0) (ix u 0); omega]; omega⟩
  | k + 1, hk => by
    obtain ⟨⟨q, hq, hqe⟩, hc, hl⟩ := pb_inv hf hu k (by omega)
    have h0 : 0 ≤ (pb f u (k + 1)).2 := by rw [hc]; exact hf _
    by_cases h : f (ix u (k + 1)) < (pb f u (k + 1)).2
    · rw [pb_y (.inr h)]
      refine ⟨⟨k + 1, by omega, rfl⟩, rfl, fun j hj => ?_⟩
      rcases Nat.lt_or_ge j (k + 1) with e | e
      · left
        have := hl j (by omega)
        show f (ix u (k + 1)) < _
        omega
      · have : j = k + 1 := by omega
        subst this
        exact .inr ⟨rfl, by rw [show sc (ix u (k + 1)) (ix u (k + 1)) = 0 from by have := sc_neg (ix u (k + 1)) (ix u (k + 1)); omega]; omega⟩
    · rw [pb_n ⟨by omega, h⟩]
      refine ⟨⟨q, by omega, hqe⟩, hc, fun j hj => ?_⟩
      rcases Nat.lt_or_ge j (k + 1) with e | e
      · exact hl j (by omega)
      · have : j = k + 1 := by omega
        subst this
        rcases Int.lt_or_eq_of_le (Int.not_lt.1 h) with g | g
        · exact .inl g
        · right
          refine ⟨g, ?_⟩
          rw [← hqe]
          have := List.pairwise_iff_getElem.1 hu q (k + 1) (by omega) hk (by omega)
          rwa [ix_eq (by omega), ix_eq hk] at this
theorem fc_nn (r : List ByteArray) (w : List Int) (s : ByteArray) : 0 ≤ fc r w s ∧ fc r w s ≤ 96000 * (r.length : Int) := tc_in r w s r.length
theorem pb_bst {r : List ByteArray} {w : List Int} (h0 : 0 < r.length) : Bst r w (pb (fc r w) (srtS (fk r r.length)) (srtS (fk r r.length)).length) := by
  have hp := srtS_perm (fk r r.length)
  have hm : ix r 0 ∈ srtS (fk r r.length) := hp.symm.subset ((fk_mem _).2 ⟨0, h0, rfl⟩)
  have hl : 0 < (srtS (fk r r.length)).length := List.length_pos_of_mem hm
  obtain ⟨h1, h2, h3⟩ := pb_inv (fun s => (fc_nn r w s).1) (srtS_pw (fk r r.length)) ((srtS (fk r r.length)).length - 1) (by omega)
  rw [show (srtS (fk r r.length)).length - 1 + 1 = (srtS (fk r r.length)).length by omega] at h1 h2 h3
  obtain ⟨q, hq, he⟩ := h1
  refine ⟨?_, h2, fun j hj => ?_⟩
  · obtain ⟨i, hi, hie⟩ := (fk_mem _).1 (hp.subset (ix_mem (by omega : q < (srtS (fk r r.length)).length)))
    exact ⟨i, hi, by rw [hie, he]⟩
  · obtain ⟨i, hi, hie⟩ := mem_ix (hp.symm.subset ((fk_mem _).2 ⟨j, hj, rfl⟩))
    have := h3 i (by omega)
    rwa [hie] at this
def ra (r : List ByteArray) (w : List Int) : Nat → Int × Int
  | 0 => (0, -1)
  | k + 1 => bif decide ((ra r w k).2 < 0) || decide (fc r w (ix r k) < (ra r w k).1) || ((fc r w (ix r k) == (ra r w k).1) && sLt (ix r k) (ix r (ra r w k).2.toNat)) then (fc r w (ix r k), (k : Int)) else ra r w k
theorem ra_inv {r : List ByteArray} {w : List Int} : ∀ k, k < r.length → (∃ q : Nat, (ra r w (k + 1)).2 = (q : Int) ∧ q ≤ k ∧ (ra r w (k + 1)).1 = fc r w (ix r q) ∧ ∀ j, j ≤ k → fc r w (ix r q) < fc r w (ix r j) ∨ (fc r w (ix r q) = fc r w (ix r j) ∧ sc (ix r q) (ix r j) ≤ 0))
  | 0, hk => by
    refine ⟨0, ?_, Nat.le_refl _, ?_, fun j hj => .inr ?_⟩
    · simp [ra]
    · simp [ra]
    · have : j = 0 := by omega
      subst this
      exact ⟨rfl, by rw [show sc (ix r 0) (ix r 0) = 0 from by have := sc_neg (ix r 0) (ix r 0); omega]; omega⟩
  | k + 1, hk => by
    obtain ⟨q, e1, hq, e2, hl⟩ := ra_inv (r := r) (w := w) k (by omega)
    have hs : ∀ a b : ByteArray, sLt a b = true → sc a b ≤ 0 := fun a b h => le_of_lt h
    have ht : ∀ a b : ByteArray, sLt a b = false → sc b a ≤ 0 := fun a b h => le_of_nlt h
    have hcond : ra r w (k + 1 + 1) = bif decide (fc r w (ix r (k + 1)) < fc r w (ix r q)) || ((fc r w (ix r (k + 1)) == fc r w (ix r q)) && sLt (ix r (k + 1)) (ix r q)) then (fc r w (ix r (k + 1)), ((k + 1 : Nat) : Int)) else ra r w (k + 1) := by
      rw [ra, e1, e2]
      have : decide ((q : Int) < 0) = false := decide_eq_false (by omega)
      rw [this]; simp
    rw [hcond]
    cases hb : (decide (fc r w (ix r (k + 1)) < fc r w (ix r q)) || ((fc r w (ix r (k + 1)) == fc r w (ix r q)) && sLt (ix r (k + 1)) (ix r q))) with
    | true =>
      simp only [cond_true]
      refine ⟨k + 1, rfl, Nat.le_refl _, rfl, fun j hj => ?_⟩
      simp only [Bool.or_eq_true, decide_eq_true_eq, Bool.and_eq_true, beq_iff_eq] at hb
      rcases Nat.lt_or_ge j (k + 1) with e | e
      · have := hl j (by omega)
        rcases hb with g | ⟨g1, g2⟩
        · left; omega
        · rcases this with h | ⟨h, h'⟩
          · left; omega
          · exact .inr ⟨g1.trans h, (sc_tq _ _ _ (hs _ _ g2) h').1⟩
      · have : j = k + 1 := by omega
        subst this
        exact .inr ⟨rfl, by rw [show sc (ix r (k + 1)) (ix r (k + 1)) = 0 from by have := sc_neg (ix r (k + 1)) (ix r (k + 1)); omega]; omega⟩
    | false =>
      simp only [cond_false]
      refine ⟨q, e1, by omega, e2, fun j hj => ?_⟩
      simp only [Bool.or_eq_false_iff, decide_eq_false_iff_not, Bool.and_eq_false_iff, beq_eq_false_iff_ne] at hb
      rcases Nat.lt_or_ge j (k + 1) with e | e
      · exact hl j (by omega)
      · have : j = k + 1 := by omega
        subst this
        rcases Int.lt_or_eq_of_le (Int.not_lt.1 hb.1) with g | g
        · exact .inl g
        · refine .inr ⟨g, ?_⟩
          rcases hb.2 with h | h
          · exact absurd g.symm h
          · exact ht _ _ h
theorem ra_bst {r : List ByteArray} {w : List Int} (h0 : 0 < r.length) : 0 ≤ (ra r w r.length).2 ∧ (ra r w r.length).2 < (r.length : Int) ∧ Bst r w (ix r (ra r w r.length).2.toNat, (ra r w r.length).1) := by
  obtain ⟨q, e1, hq, e2, hl⟩ := ra_inv (r := r) (w := w) (r.length - 1) (by omega)
  rw [show r.length - 1 + 1 = r.length by omega] at e1 e2
  rw [e1, e2]
  refine ⟨by omega, by omega, ⟨q, by omega, rfl⟩, rfl, fun j hj => hl j (by omega)⟩
def vt (r : List ByteArray) (w : List Int) : ByteArray × Int := if r.length = 0 ∨ r.length ≠ w.length then (⟨#[]⟩, 0) else (ix r (ra r w r.length).2.toNat, (ra r w r.length).1)
theorem vt_bst {r : List ByteArray} {w : List Int} (h0 : r.length ≠ 0) (h1 : r.length = w.length) : Bst r w (vt r w) := by
  unfold vt
  rw [if_neg (by omega)]
  exact (ra_bst (by omega)).2.2
theorem dst_self (s : ByteArray) : dst s s = 0 := by unfold dst; exact dd_same _ _
theorem one_bst {r : List ByteArray} {w : List Int} (h : (srtS (fk r r.length)).length = 1) : Bst r w (ix (srtS (fk r r.length)) 0, 0) := by
  have hp := srtS_perm (fk r r.length)
  have hall : ∀ q, q < r.length → ix r q = ix (srtS (fk r r.length)) 0 := fun q hq => by
    obtain ⟨i, hi, hie⟩ := mem_ix (hp.symm.subset ((fk_mem _).2 ⟨q, hq, rfl⟩))
    rw [← hie, show i = 0 by omega]
  have h0 : ∀ k, k ≤ r.length → tc r w (ix (srtS (fk r r.length)) 0) k = 0 := fun k => by
    induction k with
    | zero => intro _; rfl
    | succ k ih => intro hk; simp only [tc]; rw [ih (by omega), hall k (by omega), dst_self]; simp
  obtain ⟨i, hi, hie⟩ := (fk_mem _).1 (hp.subset (ix_mem (by omega : 0 < (srtS (fk r r.length)).length)))
  refine ⟨⟨i, hi, hie⟩, (h0 _ (Nat.le_refl _)).symm, fun q hq => .inr ?_⟩
  rw [hall q hq]
  exact ⟨(h0 _ (Nat.le_refl _)).symm, by show sc (ix (srtS (fk r r.length)) 0) (ix (srtS (fk r r.length)) 0) ≤ 0; have := sc_neg (ix (srtS (fk r r.length)) 0) (ix (srtS (fk r r.length)) 0); omega⟩
def fewS (l : List ByteArray) : Bool := decide ((l.length : Int) ≤ 20) && l.all fun s => decide ((s.size : Int) ≤ 60)
theorem fewS_t {l : List ByteArray} (h : fewS l = true) : l.length ≤ 20 ∧ ∀ s ∈ l, s.size ≤ 60 := by
  simp only [fewS, Bool.and_eq_true, decide_eq_true_eq, List.all_eq_true] at h
  exact ⟨by omega, fun s hs => by have := h.2 s hs; omega⟩
theorem er_len {α : Type} {l : List α} {j : Nat} (h : j < l.length) : (l.eraseIdx j).length < l.length := by rw [List.length_eraseIdx]; split <;> omega
theorem er_p1 {α : Type} : ∀ {l : List α} {j : Nat} (h : j < l.length), (l[j] :: l.eraseIdx j).Perm l
  | x :: l, 0, _ => List.Perm.refl _
  | x :: l, j + 1, h => by
    have hj : j < l.length := by simpa using h
    have ih := er_p1 (l := l) (j := j) hj
    show (l[j] :: x :: l.eraseIdx j).Perm (x :: l)
    exact (List.Perm.swap _ _ _).trans (List.Perm.cons _ ih)
theorem er_perm {α : Type} [Inhabited α] {c l : List α} {j : Nat} (hj : j < l.length) : ((c ++ [ix l j]) ++ l.eraseIdx j).Perm (c ++ l) := by
  rw [List.append_assoc]
  refine List.Perm.append_left _ ?_
  rw [← ix_eq hj]
  exact er_p1 hj
theorem srtS_perm2 {c m : List ByteArray} (h : c.Perm m) : srtS c = srtS m := srtS_eq ((srtS_perm c).trans h) (srtS_pw c)

set_option maxHeartbeats 4000000 in
set_option maxRecDepth 100000 in
theorem befR (s u : ByteArray) (hs : s.size ≤ 60) (hz : u.size ≤ 60) : Ctr Tryd.prog 41 [.fl (.string s), .fl (.string u)] (.d (.fl (.bool (sLt s u)))) := by
  refine ctr (n := 37) (rs := #[.tmp 4]) (L := [(0, .d (.fl (.string s))), (1, .d (.fl (.string u)))]) Tryd.func41 rfl rfl rfl rfl rfl (fun w0 U0 => ?_)
  refine a_rseq ?_
  refine rg_put (d := 4) (v := .d (.fl (.bool false))) rfl (og rfl (op_assign rfl rfl rfl)) ?_
  refine rg_done rfl ?_
  refine a_seq ?_
  refine a_rseq ?_
  refine rg_put (d := 5) (v := .d (.fl (.int .i64 0))) rfl (og rfl (op_assign rfl rfl rfl)) ?_
  refine rg_done rfl ?_
  refine a_block ?_
  refine a_loop (ι := Nat) (fun k => SS [(0, .d (.fl (.string s))), (1, .d (.fl (.string u))), (5, .d (.fl (.int .i64 (k : Int))))] []) (fun k => k ≤ s.size ∧ k ≤ u.size ∧ ∀ q, q < k → bt s q = bt u q) (fun k => s.size - k) 0 (⟨by omega, by omega, fun q h => by omega⟩) (imp_forget rfl ⟨rfl, rfl, (by first | rfl | exact ci (by omega) | exact ci (by simp) | exact cd (by simp) | simp), trivial⟩ trivial) (fun k hok => ?_)
  obtain ⟨hk, hk2, hq⟩ := hok
  refine a_seq ?_
  refine a_rseq ?_
  refine rg_put (d := 6) (v := .d (.fl (.int .i64 (k : Int)))) rfl (og rfl (op_move rfl rfl rfl)) ?_
  refine rg_put (d := 7) (v := .d (.fl (.string s))) rfl (og rfl (op_move rfl rfl rfl)) ?_
  refine rg_put (d := 8) (v := .d (.fl (.int .i64 (s.size : Int)))) rfl (og rfl (op_len_str rfl Tryd.underlying9 rfl rfl)) ?_
  refine rg_put (d := 9) (v := .d (.fl (.bool ((decide ((k : Int) < (s.size : Int))))))) rfl (og rfl (op_bin rfl rfl rfl (b_lss _ _ _ _) rfl)) ?_
  refine rg_put (d := 10) (v := .d (.fl (.bool ((decide ((k : Int) < (s.size : Int))))))) rfl (og rfl (op_move rfl rfl rfl)) ?_
  rcases fot ((decide ((k : Int) < (s.size : Int)))) with h1 | h1
  · skip
    have h2 := f_dec h1
    refine rg_put (d := 11) (v := .d (.fl undef)) rfl (on rfl rfl rfl h1) ?_
    refine rg_put (d := 12) (v := .d (.fl undef)) rfl (on rfl rfl rfl h1) ?_
    refine rg_put (d := 13) (v := .d (.fl undef)) rfl (on rfl rfl rfl h1) ?_
    refine rg_put (d := 14) (v := .d (.fl undef)) rfl (on rfl rfl rfl h1) ?_
    refine rg_put (d := 15) (v := .d (.fl (.bool false))) rfl (og rfl (op_pick rfl rfl (by rw [h1]; rfl) rfl)) ?_
    refine rg_done rfl ?_
    refine a_condF rfl rfl ?_
    refine a_exit ?_
    show A _ _ _ _ _ _ _
    refine a_rseq ?_
    refine rg_put (d := 32) (v := .d (.fl (.string s))) rfl (og rfl (op_move rfl rfl rfl)) ?_
    refine rg_put (d := 33) (v := .d (.fl (.int .i64 (s.size : Int)))) rfl (og rfl (op_len_str rfl Tryd.underlying9 rfl rfl)) ?_
    refine rg_put (d := 34) (v := .d (.fl (.string u))) rfl (og rfl (op_move rfl rfl rfl)) ?_
    refine rg_put (d := 35) (v := .d (.fl (.int .i64 (u.size : Int)))) rfl (og rfl (op_len_str rfl Tryd.underlying9 rfl rfl)) ?_
    refine rg_put (d := 36) (v := .d (.fl (.bool ((decide ((s.size : Int) < (u.size : Int))))))) rfl (og rfl (op_bin rfl rfl rfl (b_lss _ _ _ _) rfl)) ?_
    refine rg_put (d := 4) (v := .d (.fl (.bool ((decide ((s.size : Int) < (u.size : Int))))))) rfl (og rfl (op_assign rfl rfl rfl)) ?_
    refine rg_done rfl ?_
    refine a_ret ?_
    show ∃ ds, ResL _ _ _ ds ∧ RV.of ds = _
    refine ⟨[.fl (.bool ((decide ((s.size : Int) < (u.size : Int)))))], (.cons (.tmp rfl (.d _)) .nil), ?_⟩
    rw [bef_end (k := k) (by omega) hq]; rfl
  · skip
    have h3 := t_dec h1
    refine rg_put (d := 11) (v := .d (.fl (.int .i64 (k : Int)))) rfl (oy rfl rfl rfl h1 (op_move rfl rfl rfl)) ?_
    refine rg_put (d := 12) (v := .d (.fl (.string u))) rfl (oy rfl rfl rfl h1 (op_move rfl rfl rfl)) ?_
    refine rg_put (d := 13) (v := .d (.fl (.int .i64 (u.size : Int)))) rfl (oy rfl rfl rfl h1 (op_len_str rfl Tryd.underlying9 rfl rfl)) ?_
    refine rg_put (d := 14) (v := .d (.fl (.bool ((decide ((k : Int) < (u.size : Int))))))) rfl (oy rfl rfl rfl h1 (op_bin rfl rfl rfl (b_lss _ _ _ _) rfl)) ?_
    refine rg_put (d := 15) (v := .d (.fl (.bool ((decide ((k : Int) < (u.size : Int))))))) rfl (og rfl (op_pick rfl rfl (by rw [h1]; rfl) rfl)) ?_
    refine rg_done rfl ?_
    refine a_cond rfl (fun h4 => ?_) (fun h4 => ?_)
    · skip
      have h5 := t_dec h4
      refine a_skip ?_
      show A _ _ _ _ _ _ _
      refine a_seq ?_
      refine a_block ?_
      refine a_dseq (by kernel_rfl) ?_
      refine dr_put (d := 18) (v := .d (.fl (.string s))) rfl (og rfl (op_move rfl rfl rfl)) ?_
      refine dr_put (d := 19) (v := .d (.fl (.int .i64 (k : Int)))) rfl (og rfl (op_move rfl rfl rfl)) ?_
      refine dr_put (d := 20) (v := .d (.fl (.int .u8 (((bt s k).toNat : Int))))) rfl (og rfl (op_strindex rfl Tryd.underlying9 rfl rfl (by omega) (byte_ix (by omega)) rfl)) ?_
      refine dr_put (d := 21) (v := .d (.fl (.string u))) rfl (og rfl (op_move rfl rfl rfl)) ?_
      refine dr_put (d := 22) (v := .d (.fl (.int .i64 (k : Int)))) rfl (og rfl (op_move rfl rfl rfl)) ?_
      refine dr_put (d := 23) (v := .d (.fl (.int .u8 (((bt u k).toNat : Int))))) rfl (og rfl (op_strindex rfl Tryd.underlying9 rfl rfl (by omega) (byte_ix (by omega)) rfl)) ?_
      refine dr_put (d := 24) (v := .d (.fl (.bool ((((bt s k).toNat : Int) != ((bt u k).toNat : Int)))))) rfl (og rfl (op_bin rfl rfl rfl (b_neq _ _ _ _) rfl)) ?_
      refine dr_done rfl (by kernel_rfl) (by kernel_rfl) ?_
      refine a_cond rfl (fun h6 => ?_) (fun h6 => ?_)
      · skip
        have h7 := t_bne h6
        refine a_dseq (by kernel_rfl) ?_
        refine dr_put (d := 25) (v := .d (.fl (.string s))) rfl (og rfl (op_move rfl rfl rfl)) ?_
        refine dr_put (d := 26) (v := .d (.fl (.int .i64 (k : Int)))) rfl (og rfl (op_move rfl rfl rfl)) ?_
        refine dr_put (d := 27) (v := .d (.fl (.int .u8 (((bt s k).toNat : Int))))) rfl (og rfl (op_strindex rfl Tryd.underlying9 rfl rfl (by omega) (byte_ix (by omega)) rfl)) ?_
        refine dr_put (d := 28) (v := .d (.fl (.string u))) rfl (og rfl (op_move rfl rfl rfl)) ?_
        refine dr_put (d := 29) (v := .d (.fl (.int .i64 (k : Int)))) rfl (og rfl (op_move rfl rfl rfl)) ?_
        refine dr_put (d := 30) (v := .d (.fl (.int .u8 (((bt u k).toNat : Int))))) rfl (og rfl (op_strindex rfl Tryd.underlying9 rfl rfl (by omega) (byte_ix (by omega)) rfl)) ?_
        refine dr_put (d := 31) (v := .d (.fl (.bool ((decide (((bt s k).toNat : Int) < ((bt u k).toNat : Int))))))) rfl (og rfl (op_bin rfl rfl rfl (b_lss _ _ _ _) rfl)) ?_
        refine dr_put (d := 4) (v := .d (.fl (.bool ((decide (((bt s k).toNat : Int) < ((bt u k).toNat : Int))))))) rfl (og rfl (op_assign rfl rfl rfl)) ?_
        refine dr_done rfl (by kernel_rfl) (by kernel_rfl) ?_
        refine a_ret ?_
        show ∃ ds, ResL _ _ _ ds ∧ RV.of ds = _
        refine ⟨[.fl (.bool ((decide (((bt s k).toNat : Int) < ((bt u k).toNat : Int)))))], (.cons (.tmp rfl (.d _)) .nil), ?_⟩
        have hne : bt s k ≠ bt u k := fun e => by have := t_bne h6; rw [e] at this; exact this rfl
        rw [bef_at (by omega) (by omega) hq hne]; rfl
      · skip
        have h8 := f_bne h6
        refine a_skip ?_
        show A _ _ _ _ _ _ _
        refine a_region ?_
        refine rg_put (d := 16) (v := .d (.fl (.int .i64 (k : Int)))) rfl (og rfl (op_move rfl rfl rfl)) ?_
        refine rg_put (d := 17) (v := .d (.fl (.int .i64 (((k : Int) + 1))))) rfl (og rfl (op_bin rfl rfl rfl (fun x y w => b_add64 _ _ _ x y w (by omega)) rfl)) ?_
        refine rg_put (d := 5) (v := .d (.fl (.int .i64 (((k : Int) + 1))))) rfl (og rfl (op_assign rfl rfl rfl)) ?_
        refine rg_done rfl ?_
        have hx : bt s k = bt u k := UInt8.toNat_inj.1 (by have := f_bne h6; omega)
        show ∃ i, _ ∧ _ ∧ Imp _ _ _ _ _
        refine ⟨k + 1, ⟨by omega, by omega, fun q h => (Nat.lt_succ_iff_lt_or_eq.1 h).elim (hq q) (fun e => by rw [e]; exact hx)⟩, by omega, imp_forget rfl ⟨rfl, rfl, (by first | rfl | exact ci (by omega) | exact ci (by simp) | exact cd (by simp) | simp), trivial⟩ trivial⟩
    · skip
      have h9 := f_dec h4
      refine a_exit ?_
      show A _ _ _ _ _ _ _
      refine a_rseq ?_
      refine rg_put (d := 32) (v := .d (.fl (.string s))) rfl (og rfl (op_move rfl rfl rfl)) ?_
      refine rg_put (d := 33) (v := .d (.fl (.int .i64 (s.size : Int)))) rfl (og rfl (op_len_str rfl Tryd.underlying9 rfl rfl)) ?_
      refine rg_put (d := 34) (v := .d (.fl (.string u))) rfl (og rfl (op_move rfl rfl rfl)) ?_
      refine rg_put (d := 35) (v := .d (.fl (.int .i64 (u.size : Int)))) rfl (og rfl (op_len_str rfl Tryd.underlying9 rfl rfl)) ?_
      refine rg_put (d := 36) (v := .d (.fl (.bool ((decide ((s.size : Int) < (u.size : Int))))))) rfl (og rfl (op_bin rfl rfl rfl (b_lss _ _ _ _) rfl)) ?_
      refine rg_put (d := 4) (v := .d (.fl (.bool ((decide ((s.size : Int) < (u.size : Int))))))) rfl (og rfl (op_assign rfl rfl rfl)) ?_
      refine rg_done rfl ?_
      refine a_ret ?_
      show ∃ ds, ResL _ _ _ ds ∧ RV.of ds = _
      refine ⟨[.fl (.bool ((decide ((s.size : Int) < (u.size : Int)))))], (.cons (.tmp rfl (.d _)) .nil), ?_⟩
      rw [bef_end (k := k) (by omega) hq]; rfl
set_option maxHeartbeats 4000000 in
set_option maxRecDepth 100000 in
theorem fewC (l : List ByteArray) (hl : l.length ≤ 9223372036854775807) : Ctr Tryd.prog 20 [.sl 1 (List.map rS l)] (.d (.fl (.bool (fewS l)))) := by
  refine ctr (n := 19) (rs := #[.tmp 2]) (L := [(0, .d (.sl 1 (List.map rS l)))]) Tryd.func20 rfl rfl rfl rfl rfl (fun w0 U0 => ?_)
  refine a_rseq ?_
  refine rg_put (d := 2) (v := .d (.fl (.bool false))) rfl (og rfl (op_assign rfl rfl rfl)) ?_
  refine rg_done rfl ?_
  refine a_seq ?_
  refine a_rseq ?_
  refine rg_put (d := 3) (v := .d (.fl (.int .i64 0))) rfl (og rfl (op_assign rfl rfl rfl)) ?_
  refine rg_done rfl ?_
  refine a_block ?_
  refine a_loop (ι := Nat) (fun k => SS [(0, .d (.sl 1 (List.map rS l))), (3, .d (.fl (.int .i64 (k : Int))))] []) (fun k => k ≤ l.length ∧ ∀ q, q < k → (decide (60 < ((ix l q).size : Int))) = false) (fun k => l.length - k) 0 (⟨by omega, fun q h => by omega⟩) (imp_forget rfl ⟨rfl, (by first | rfl | exact ci (by omega) | exact ci (by simp) | exact cd (by simp) | simp), trivial⟩ trivial) (fun k hok => ?_)
  obtain ⟨hkk, hq⟩ := hok
  refine a_seq ?_
  refine a_rseq ?_
  refine rg_put (d := 4) (v := .d (.fl (.int .i64 (k : Int)))) rfl (og rfl (op_move rfl rfl rfl)) ?_
  refine rg_put (d := 5) (v := .d (.sl 1 (List.map rS l))) rfl (og rfl (op_move rfl rfl rfl)) ?_
  refine rg_put (d := 6) (v := .d (.fl (.int .i64 (l.length : Int)))) rfl (og rfl (s_len rfl Tryd.underlying32 rfl rfl)) ?_
  refine rg_put (d := 7) (v := .d (.fl (.bool ((decide ((k : Int) < (l.length : Int))))))) rfl (og rfl (op_bin rfl rfl rfl (b_lss _ _ _ _) rfl)) ?_
  refine rg_done rfl ?_
  refine a_cond rfl (fun h1 => ?_) (fun h1 => ?_)
  · skip
    have h2 := t_dec h1
    refine a_skip ?_
    show A _ _ _ _ _ _ _
    refine a_seq ?_
    refine a_block ?_
    refine a_rseq ?_
    refine rg_put (d := 10) (v := .d (.sl 1 (List.map rS l))) rfl (og rfl (op_move rfl rfl rfl)) ?_
    refine rg_put (d := 11) (v := .d (.fl (.int .i64 (k : Int)))) rfl (og rfl (op_move rfl rfl rfl)) ?_
    refine rg_put (d := 12) (v := .el ((rS (ix l k)))) rfl (og rfl (s_index rfl Tryd.underlying32 ti9 rfl rfl (by omega) (row_at (by omega)) rfl)) ?_
    refine rg_put (d := 13) (v := .d (.fl (.string (ix l k)))) rfl (og rfl (op_load_el rfl Tryd.underlying9 rfl rfl rfl rfl)) ?_
    refine rg_put (d := 14) (v := .d (.fl (.int .i64 (((ix l k).size : Int))))) rfl (og rfl (op_len_str rfl Tryd.underlying9 rfl rfl)) ?_
    refine rg_put (d := 15) (v := .d (.fl (.bool ((decide (60 < ((ix l k).size : Int))))))) rfl (og rfl (op_bin rfl rfl rfl (b_gtr _ _ _ _) rfl)) ?_
    refine rg_done rfl ?_
    refine a_cond rfl (fun h3 => ?_) (fun h3 => ?_)
    · skip
      have h4 := t_dec h3
      refine a_rseq ?_
      refine rg_put (d := 2) (v := .d (.fl (.bool false))) rfl (og rfl (op_assign rfl rfl rfl)) ?_
      refine rg_done rfl ?_
      refine a_ret ?_
      show ∃ ds, ResL _ _ _ ds ∧ RV.of ds = _
      refine ⟨[.fl (.bool false)], (.cons (.tmp rfl (.d _)) .nil), ?_⟩
      rw [show fewS l = false from by unfold fewS; rw [all_no (p := fun s : ByteArray => decide ((s.size : Int) ≤ 60)) (k := k) (by omega) (decide_eq_false (by have := of_decide_eq_true h3; omega)), Bool.and_false]]; rfl
    · skip
      have h5 := f_dec h3
      refine a_skip ?_
      show A _ _ _ _ _ _ _
      refine a_region ?_
      refine rg_put (d := 8) (v := .d (.fl (.int .i64 (k : Int)))) rfl (og rfl (op_move rfl rfl rfl)) ?_
      refine rg_put (d := 9) (v := .d (.fl (.int .i64 (((k : Int) + 1))))) rfl (og rfl (op_bin rfl rfl rfl (fun x y w => b_add64 _ _ _ x y w (by omega)) rfl)) ?_
      refine rg_put (d := 3) (v := .d (.fl (.int .i64 (((k : Int) + 1))))) rfl (og rfl (op_assign rfl rfl rfl)) ?_
      refine rg_done rfl ?_
      have hx : (decide (60 < ((ix l k).size : Int))) = false := h3
      show ∃ i, _ ∧ _ ∧ Imp _ _ _ _ _
      refine ⟨k + 1, ⟨by omega, fun q h => (Nat.lt_succ_iff_lt_or_eq.1 h).elim (hq q) (fun e => by rw [e]; exact hx)⟩, by omega, imp_forget rfl ⟨rfl, (by first | rfl | exact ci (by omega) | exact ci (by simp) | exact cd (by simp) | simp), trivial⟩ trivial⟩
  · skip
    have h6 := f_dec h1
    refine a_exit ?_
    show A _ _ _ _ _ _ _
    refine a_rseq ?_
    refine rg_put (d := 16) (v := .d (.sl 1 (List.map rS l))) rfl (og rfl (op_move rfl rfl rfl)) ?_
    refine rg_put (d := 17) (v := .d (.fl (.int .i64 (l.length : Int)))) rfl (og rfl (s_len rfl Tryd.underlying32 rfl rfl)) ?_
    refine rg_put (d := 18) (v := .d (.fl (.bool ((decide ((l.length : Int) ≤ 20)))))) rfl (og rfl (op_bin rfl rfl rfl (b_leq _ _ _ _) rfl)) ?_
    refine rg_put (d := 2) (v := .d (.fl (.bool ((decide ((l.length : Int) ≤ 20)))))) rfl (og rfl (op_assign rfl rfl rfl)) ?_
    refine rg_done rfl ?_
    refine a_ret ?_
    show ∃ ds, ResL _ _ _ ds ∧ RV.of ds = _
    refine ⟨[.fl (.bool ((decide ((l.length : Int) ≤ 20))))], (.cons (.tmp rfl (.d _)) .nil), ?_⟩
    rw [show fewS l = (decide ((l.length : Int) ≤ 20)) from by unfold fewS; rw [all_yes (p := fun s : ByteArray => decide ((s.size : Int) ≤ 60)) (fun q h => decide_eq_true (by have := of_decide_eq_false (hq q (by omega)); omega)), Bool.and_true]]; rfl
theorem wt_lo {n : Int} (h : n < 0) : wt n = 0 := by unfold wt; omega
theorem wt_hi {n : Int} (h : ¬ n < 0) : wt n = min n 1000 := by unfold wt; omega
set_option maxHeartbeats 4000000 in
set_option maxRecDepth 100000 in
theorem wtR (n : Int) : Ctr Tryd.prog 43 [.fl (.int .i64 n)] (.d (.fl (.int .i64 (wt n)))) := by
  refine ctr (n := 7) (rs := #[.tmp 2]) (L := [(0, .d (.fl (.int .i64 n)))]) Tryd.func43 rfl rfl rfl rfl rfl (fun w0 U0 => ?_)
  refine a_rseq ?_
  refine rg_put (d := 2) (v := .d (.fl (.int .i64 0))) rfl (og rfl (op_assign rfl rfl rfl)) ?_
  refine rg_done rfl ?_
  refine a_seq ?_
  refine a_rseq ?_
  refine rg_put (d := 3) (v := .d (.fl (.int .i64 n))) rfl (og rfl (op_move rfl rfl rfl)) ?_
  refine rg_put (d := 4) (v := .d (.fl (.bool ((decide (n < 0)))))) rfl (og rfl (op_bin rfl rfl rfl (b_lss _ _ _ _) rfl)) ?_
  refine rg_done rfl ?_
  refine a_cond rfl (fun h1 => ?_) (fun h1 => ?_)
  · skip
    have h2 := t_dec h1
    refine a_rseq ?_
    refine rg_put (d := 2) (v := .d (.fl (.int .i64 0))) rfl (og rfl (op_assign rfl rfl rfl)) ?_
    refine rg_done rfl ?_
    refine a_ret ?_
    show ∃ ds, ResL _ _ _ ds ∧ RV.of ds = _
    refine ⟨[.fl (.int .i64 0)], (.cons (.tmp rfl (.d _)) .nil), ?_⟩
    rw [wt_lo (by omega)]; rfl
  · skip
    have h3 := f_dec h1
    refine a_skip ?_
    show A _ _ _ _ _ _ _
    refine a_rseq ?_
    refine rg_put (d := 5) (v := .d (.fl (.int .i64 n))) rfl (og rfl (op_move rfl rfl rfl)) ?_
    refine rg_put (d := 6) (v := .d (.fl (.int .i64 (min n 1000)))) rfl (og rfl (op_call rfl Tryd.func34 nm34 rfl (.cons rfl (.d _) (.cons rfl (.d _) .nil)) (lea n 1000) rfl)) ?_
    refine rg_put (d := 2) (v := .d (.fl (.int .i64 (min n 1000)))) rfl (og rfl (op_assign rfl rfl rfl)) ?_
    refine rg_done rfl ?_
    refine a_ret ?_
    show ∃ ds, ResL _ _ _ ds ∧ RV.of ds = _
    refine ⟨[.fl (.int .i64 (min n 1000))], (.cons (.tmp rfl (.d _)) .nil), ?_⟩
    rw [wt_hi (by omega)]; rfl
set_option maxHeartbeats 4000000 in
set_option maxRecDepth 100000 in
theorem votR (r : List ByteArray) (w : List Int) (hr : r.length ≤ 20) (hz : ∀ s ∈ r, s.size ≤ 60) (hw9 : w.length ≤ 9223372036854775807) : Ctr Tryd.prog 25 [.sl 1 (List.map rS r), .sl 1 (List.map (rI .i64) w)] (.tu [.fl (.string (vt r w).1), .fl (.int .i64 (vt r w).2)]) := by
  refine ctr (n := 80) (rs := #[.tmp 4, .tmp 5]) (L := [(0, .d (.sl 1 (List.map rS r))), (1, .d (.sl 1 (List.map (rI .i64) w)))]) Tryd.func25 rfl rfl rfl rfl rfl (fun w0 U0 => ?_)
  refine a_rseq ?_
  refine rg_put (d := 4) (v := .d (.fl (.string (⟨#[]⟩)))) rfl (og rfl (op_assign rfl rfl rfl)) ?_
  refine rg_put (d := 5) (v := .d (.fl (.int .i64 0))) rfl (og rfl (op_assign rfl rfl rfl)) ?_
  refine rg_done rfl ?_
  refine a_seq ?_
  refine a_rseq ?_
  refine rg_put (d := 11) (v := .d (.sl 1 (List.map rS r))) rfl (og rfl (op_move rfl rfl rfl)) ?_
  refine rg_put (d := 12) (v := .d (.fl (.int .i64 (r.length : Int)))) rfl (og rfl (s_len rfl Tryd.underlying32 rfl rfl)) ?_
  refine rg_put (d := 13) (v := .d (.fl (.bool (((r.length : Int) == 0))))) rfl (og rfl (op_bin rfl rfl rfl (b_eql _ _ _ _) rfl)) ?_
  refine rg_put (d := 14) (v := .d (.fl (.bool (((r.length : Int) == 0))))) rfl (og rfl (op_move rfl rfl rfl)) ?_
  rcases fot (((r.length : Int) == 0)) with h1 | h1
  · skip
    have h2 := f_beq h1
    refine rg_put (d := 15) (v := .d (.sl 1 (List.map rS r))) rfl (oy rfl rfl rfl h1 (op_move rfl rfl rfl)) ?_
    refine rg_put (d := 16) (v := .d (.fl (.int .i64 (r.length : Int)))) rfl (oy rfl rfl rfl h1 (s_len rfl Tryd.underlying32 rfl rfl)) ?_
    refine rg_put (d := 17) (v := .d (.sl 1 (List.map (rI .i64) w))) rfl (oy rfl rfl rfl h1 (op_move rfl rfl rfl)) ?_
    refine rg_put (d := 18) (v := .d (.fl (.int .i64 (w.length : Int)))) rfl (oy rfl rfl rfl h1 (s_len rfl Tryd.underlying37 rfl rfl)) ?_
    refine rg_put (d := 19) (v := .d (.fl (.bool (((r.length : Int) != (w.length : Int)))))) rfl (oy rfl rfl rfl h1 (op_bin rfl rfl rfl (b_neq _ _ _ _) rfl)) ?_
    refine rg_put (d := 20) (v := .d (.fl (.bool (((r.length : Int) != (w.length : Int)))))) rfl (og rfl (op_pick rfl rfl (by rw [h1]; rfl) rfl)) ?_
    refine rg_done rfl ?_
    refine a_cond rfl (fun h3 => ?_) (fun h3 => ?_)
    · skip
      have h4 := t_bne h3
      refine a_rseq ?_
      refine rg_put (d := 4) (v := .d (.fl (.string (⟨#[]⟩)))) rfl (og rfl (op_assign rfl rfl rfl)) ?_
      refine rg_put (d := 5) (v := .d (.fl (.int .i64 0))) rfl (og rfl (op_assign rfl rfl rfl)) ?_
      refine rg_done rfl ?_
      refine a_ret ?_
      show ∃ ds, ResL _ _ _ ds ∧ RV.of ds = _
      refine ⟨[.fl (.string (⟨#[]⟩)), .fl (.int .i64 0)], (.cons (.tmp rfl (.d _)) (.cons (.tmp rfl (.d _)) .nil)), ?_⟩
      rw [show vt r w = (⟨#[]⟩, 0) from if_pos (by omega)]; rfl
    · skip
      have h5 := f_bne h3
      refine a_skip ?_
      show A _ _ _ _ _ _ _
      refine a_rseq ?_
      refine rg_put (d := 6) (v := .d (.fl (.int .i64 0))) rfl (og rfl (op_assign rfl rfl rfl)) ?_
      refine rg_put (d := 7) (v := .d (.fl (.int .i64 (-1)))) rfl (og rfl (op_assign rfl rfl rfl)) ?_
      refine rg_done rfl ?_
      refine a_seq ?_
      refine a_rseq ?_
      refine rg_put (d := 8) (v := .d (.fl (.int .i64 0))) rfl (og rfl (op_assign rfl rfl rfl)) ?_
      refine rg_done rfl ?_
      refine a_block ?_
      refine a_loop (ι := Nat) (fun i => SS [(0, .d (.sl 1 (List.map rS r))), (1, .d (.sl 1 (List.map (rI .i64) w))), (4, .d (.fl (.string (⟨#[]⟩)))), (5, .d (.fl (.int .i64 0))), (20, .d (.fl (.bool (((r.length : Int) != (w.length : Int)))))), (8, .d (.fl (.int .i64 (i : Int)))), (6, .d (.fl (.int .i64 ((ra r w i).1)))), (7, .d (.fl (.int .i64 ((ra r w i).2))))] []) (fun i => i ≤ r.length ∧ (0 < i → 0 ≤ (ra r w i).2 ∧ (ra r w i).2 < (r.length : Int))) (fun i => r.length - i) 0 (⟨by omega, fun h => by omega⟩) (imp_forget rfl ⟨rfl, rfl, rfl, rfl, rfl, (by first | rfl | exact ci (by omega) | exact ci (by simp) | exact cd (by simp) | simp), rfl, rfl, trivial⟩ trivial) (fun i hok => ?_)
      obtain ⟨hi, hat⟩ := hok
      have hat0 : i = 0 → (ra r w i).2 = -1 := fun e => by rw [e]; rfl
      refine a_seq ?_
      refine a_rseq ?_
      refine rg_put (d := 21) (v := .d (.fl (.int .i64 (i : Int)))) rfl (og rfl (op_move rfl rfl rfl)) ?_
      refine rg_put (d := 22) (v := .d (.sl 1 (List.map rS r))) rfl (og rfl (op_move rfl rfl rfl)) ?_
      refine rg_put (d := 23) (v := .d (.fl (.int .i64 (r.length : Int)))) rfl (og rfl (s_len rfl Tryd.underlying32 rfl rfl)) ?_
      refine rg_put (d := 24) (v := .d (.fl (.bool ((decide ((i : Int) < (r.length : Int))))))) rfl (og rfl (op_bin rfl rfl rfl (b_lss _ _ _ _) rfl)) ?_
      refine rg_done rfl ?_
      refine a_cond rfl (fun h6 => ?_) (fun h6 => ?_)
      · skip
        have h7 := t_dec h6
        refine a_skip ?_
        show A _ _ _ _ _ _ _
        refine a_seq ?_
        refine a_block ?_
        refine a_rseq ?_
        refine rg_put (d := 9) (v := .d (.fl (.int .i64 0))) rfl (og rfl (op_assign rfl rfl rfl)) ?_
        refine rg_done rfl ?_
        refine a_seq ?_
        refine a_rseq ?_
        refine rg_put (d := 10) (v := .d (.fl (.int .i64 0))) rfl (og rfl (op_assign rfl rfl rfl)) ?_
        refine rg_done rfl ?_
        refine a_block ?_
        refine a_loop (ι := Nat) (fun k => SS [(0, .d (.sl 1 (List.map rS r))), (1, .d (.sl 1 (List.map (rI .i64) w))), (4, .d (.fl (.string (⟨#[]⟩)))), (5, .d (.fl (.int .i64 0))), (6, .d (.fl (.int .i64 ((ra r w i).1)))), (7, .d (.fl (.int .i64 ((ra r w i).2)))), (8, .d (.fl (.int .i64 (i : Int)))), (20, .d (.fl (.bool (((r.length : Int) != (w.length : Int)))))), (24, .d (.fl (.bool ((decide ((i : Int) < (r.length : Int))))))), (10, .d (.fl (.int .i64 (k : Int)))), (9, .d (.fl (.int .i64 ((tc r w (ix r i) k)))))] []) (fun k => k ≤ r.length) (fun k => r.length - k) 0 (by omega) (imp_forget rfl ⟨rfl, rfl, rfl, rfl, rfl, rfl, rfl, rfl, rfl, (by first | rfl | exact ci (by omega) | exact ci (by simp) | exact cd (by simp) | simp), rfl, trivial⟩ trivial) (fun k hok => ?_)
        have hk := hok
        have htc := tc_in r w (ix r i) k
        refine a_seq ?_
        refine a_rseq ?_
        refine rg_put (d := 27) (v := .d (.fl (.int .i64 (k : Int)))) rfl (og rfl (op_move rfl rfl rfl)) ?_
        refine rg_put (d := 28) (v := .d (.sl 1 (List.map rS r))) rfl (og rfl (op_move rfl rfl rfl)) ?_
        refine rg_put (d := 29) (v := .d (.fl (.int .i64 (r.length : Int)))) rfl (og rfl (s_len rfl Tryd.underlying32 rfl rfl)) ?_
        refine rg_put (d := 30) (v := .d (.fl (.bool ((decide ((k : Int) < (r.length : Int))))))) rfl (og rfl (op_bin rfl rfl rfl (b_lss _ _ _ _) rfl)) ?_
        refine rg_done rfl ?_
        refine a_cond rfl (fun h8 => ?_) (fun h8 => ?_)
        · skip
          have h9 := t_dec h8
          refine a_skip ?_
          show A _ _ _ _ _ _ _
          refine a_seq ?_
          refine a_block ?_
          refine a_draw (by kernel_rfl) ?_
          have hmu := mul_in (wt_in (ix w k)) (dst_nn (ix r i) (ix r k))
          refine dr_put (d := 33) (v := .d (.fl (.int .i64 ((tc r w (ix r i) k))))) rfl (og rfl (op_move rfl rfl rfl)) ?_
          refine dr_put (d := 34) (v := .d (.sl 1 (List.map (rI .i64) w))) rfl (og rfl (op_move rfl rfl rfl)) ?_
          refine dr_put (d := 35) (v := .d (.fl (.int .i64 (k : Int)))) rfl (og rfl (op_move rfl rfl rfl)) ?_
          refine dr_put (d := 36) (v := .el ((rI .i64 (ix w k)))) rfl (og rfl (s_index rfl Tryd.underlying37 ti3 rfl rfl (by omega) (row_at (by omega)) rfl)) ?_
          refine dr_put (d := 37) (v := .d (.fl (.int .i64 (ix w k)))) rfl (og rfl (op_load_el rfl Tryd.underlying3 rfl rfl rfl rfl)) ?_
          refine dr_put (d := 38) (v := .d (.fl (.int .i64 ((wt (ix w k)))))) rfl (og rfl (op_call rfl Tryd.func43 nm43 rfl (.cons rfl (.d _) .nil) (wtR (ix w k)) rfl)) ?_
          refine dr_put (d := 39) (v := .d (.sl 1 (List.map rS r))) rfl (og rfl (op_move rfl rfl rfl)) ?_
          refine dr_put (d := 40) (v := .d (.fl (.int .i64 (i : Int)))) rfl (og rfl (op_move rfl rfl rfl)) ?_
          refine dr_put (d := 41) (v := .el ((rS (ix r i)))) rfl (og rfl (s_index rfl Tryd.underlying32 ti9 rfl rfl (by omega) (row_at (by omega)) rfl)) ?_
          refine dr_put (d := 42) (v := .d (.fl (.string (ix r i)))) rfl (og rfl (op_load_el rfl Tryd.underlying9 rfl rfl rfl rfl)) ?_
          refine dr_put (d := 43) (v := .d (.sl 1 (List.map rS r))) rfl (og rfl (op_move rfl rfl rfl)) ?_
          refine dr_put (d := 44) (v := .d (.fl (.int .i64 (k : Int)))) rfl (og rfl (op_move rfl rfl rfl)) ?_
          refine dr_put (d := 45) (v := .el ((rS (ix r k)))) rfl (og rfl (s_index rfl Tryd.underlying32 ti9 rfl rfl (by omega) (row_at (by omega)) rfl)) ?_
          refine dr_put (d := 46) (v := .d (.fl (.string (ix r k)))) rfl (og rfl (op_load_el rfl Tryd.underlying9 rfl rfl rfl rfl)) ?_
          refine dr_put (d := 47) (v := .d (.fl (.int .i64 ((dst (ix r i) (ix r k)))))) rfl (og rfl (op_call rfl Tryd.func17 nm17 rfl (.cons rfl (.d _) (.cons rfl (.d _) .nil)) (dsR (ix r i) (ix r k) (hz _ (ix_mem (by omega))) (hz _ (ix_mem (by omega)))) rfl)) ?_
          refine dr_put (d := 48) (v := .d (.fl (.int .i64 (((wt (ix w k)) * (dst (ix r i) (ix r k))))))) rfl (og rfl (op_bin rfl rfl rfl (fun x y w => b_mul64 _ _ _ x y w (by omega)) rfl)) ?_
          refine dr_put (d := 49) (v := .d (.fl (.int .i64 (((tc r w (ix r i) k) + ((wt (ix w k)) * (dst (ix r i) (ix r k)))))))) rfl (og rfl (op_bin rfl rfl rfl (fun x y w => b_add64 _ _ _ x y w (by omega)) rfl)) ?_
          refine dr_put (d := 9) (v := .d (.fl (.int .i64 (((tc r w (ix r i) k) + ((wt (ix w k)) * (dst (ix r i) (ix r k)))))))) rfl (og rfl (op_assign rfl rfl rfl)) ?_
          refine dr_done rfl (sepB_of [0, 0, 0, 6, 14, 30, 0, 0, 192, 448, 0, 0, 3072, 7168, 16382, 32766, 65535, 131071] (by kernel_rfl)) (by kernel_rfl) ?_
          show A _ _ _ _ _ _ _
          refine a_region ?_
          refine rg_put (d := 31) (v := .d (.fl (.int .i64 (k : Int)))) rfl (og rfl (op_move rfl rfl rfl)) ?_
          refine rg_put (d := 32) (v := .d (.fl (.int .i64 (((k : Int) + 1))))) rfl (og rfl (op_bin rfl rfl rfl (fun x y w => b_add64 _ _ _ x y w (by omega)) rfl)) ?_
          refine rg_put (d := 10) (v := .d (.fl (.int .i64 (((k : Int) + 1))))) rfl (og rfl (op_assign rfl rfl rfl)) ?_
          refine rg_done rfl ?_
          show ∃ i, _ ∧ _ ∧ Imp _ _ _ _ _
          refine ⟨k + 1, (by omega), by omega, imp_forget rfl ⟨rfl, rfl, rfl, rfl, rfl, rfl, rfl, rfl, rfl, (by first | rfl | exact ci (by omega)), rfl, trivial⟩ trivial⟩
        · skip
          have h10 := f_dec h8
          refine a_exit ?_
          show A _ _ _ _ _ _ _
          refine a_dseq (by kernel_rfl) ?_
          refine dr_put (d := 50) (v := .d (.fl (.int .i64 ((ra r w i).2)))) rfl (og rfl (op_move rfl rfl rfl)) ?_
          refine dr_put (d := 51) (v := .d (.fl (.bool ((decide ((ra r w i).2 < 0)))))) rfl (og rfl (op_bin rfl rfl rfl (b_lss _ _ _ _) rfl)) ?_
          refine dr_put (d := 52) (v := .d (.fl (.bool ((decide ((ra r w i).2 < 0)))))) rfl (og rfl (op_move rfl rfl rfl)) ?_
          rcases fot ((decide ((ra r w i).2 < 0))) with h11 | h11
          · skip
            have h12 := f_dec h11
            refine dr_put (d := 53) (v := .d (.fl (.int .i64 ((tc r w (ix r i) k))))) rfl (oy rfl rfl rfl h11 (op_move rfl rfl rfl)) ?_
            refine dr_put (d := 54) (v := .d (.fl (.int .i64 ((ra r w i).1)))) rfl (oy rfl rfl rfl h11 (op_move rfl rfl rfl)) ?_
            refine dr_put (d := 55) (v := .d (.fl (.bool ((decide ((tc r w (ix r i) k) < (ra r w i).1)))))) rfl (oy rfl rfl rfl h11 (op_bin rfl rfl rfl (b_lss _ _ _ _) rfl)) ?_
            refine dr_put (d := 56) (v := .d (.fl (.bool ((decide ((tc r w (ix r i) k) < (ra r w i).1)))))) rfl (og rfl (op_pick rfl rfl (by rw [h11]; rfl) rfl)) ?_
            refine dr_put (d := 57) (v := .d (.fl (.bool ((decide ((tc r w (ix r i) k) < (ra r w i).1)))))) rfl (og rfl (op_move rfl rfl rfl)) ?_
            rcases fot ((decide ((tc r w (ix r i) k) < (ra r w i).1))) with h13 | h13
            · skip
              have h14 := f_dec h13
              refine dr_put (d := 58) (v := .d (.fl (.int .i64 ((tc r w (ix r i) k))))) rfl (oy rfl rfl rfl h13 (op_move rfl rfl rfl)) ?_
              refine dr_put (d := 59) (v := .d (.fl (.int .i64 ((ra r w i).1)))) rfl (oy rfl rfl rfl h13 (op_move rfl rfl rfl)) ?_
              refine dr_put (d := 60) (v := .d (.fl (.bool (((tc r w (ix r i) k) == (ra r w i).1))))) rfl (oy rfl rfl rfl h13 (op_bin rfl rfl rfl (b_eql _ _ _ _) rfl)) ?_
              refine dr_put (d := 61) (v := .d (.fl (.bool (((tc r w (ix r i) k) == (ra r w i).1))))) rfl (oy rfl rfl rfl h13 (op_move rfl rfl rfl)) ?_
              rcases fot (((tc r w (ix r i) k) == (ra r w i).1)) with h15 | h15
              · skip
                have h16 := f_beq h15
                refine dr_put (d := 62) (v := .d (.fl undef)) rfl (on rfl rfl rfl h15) ?_
                refine dr_put (d := 63) (v := .d (.fl undef)) rfl (on rfl rfl rfl h15) ?_
                refine dr_put (d := 64) (v := .d (.fl undef)) rfl (on rfl rfl rfl h15) ?_
                refine dr_put (d := 65) (v := .d (.fl undef)) rfl (on rfl rfl rfl h15) ?_
                refine dr_put (d := 66) (v := .d (.fl undef)) rfl (on rfl rfl rfl h15) ?_
                refine dr_put (d := 67) (v := .d (.fl undef)) rfl (on rfl rfl rfl h15) ?_
                refine dr_put (d := 68) (v := .d (.fl undef)) rfl (on rfl rfl rfl h15) ?_
                refine dr_put (d := 69) (v := .d (.fl undef)) rfl (on rfl rfl rfl h15) ?_
                refine dr_put (d := 70) (v := .d (.fl undef)) rfl (on rfl rfl rfl h15) ?_
                refine dr_put (d := 71) (v := .d (.fl (.bool false))) rfl (oy rfl rfl rfl h13 (op_pick rfl rfl (by rw [h15]; rfl) rfl)) ?_
                refine dr_put (d := 72) (v := .d (.fl (.bool false))) rfl (og rfl (op_pick rfl rfl (by rw [h13]; rfl) rfl)) ?_
                refine dr_done rfl (sepB_of [0, 1, 3, 7, 7, 31, 63, 127, 255, 255, 1023, 2047, 4095, 4095, 16383, 32767, 4095, 4095, 200703, 462847, 1048575, 2097151, 4194303] (by kernel_rfl)) (by kernel_rfl) ?_
                refine a_condF rfl rfl ?_
                refine a_skip ?_
                show A _ _ _ _ _ _ _
                refine a_region ?_
                refine rg_put (d := 25) (v := .d (.fl (.int .i64 (i : Int)))) rfl (og rfl (op_move rfl rfl rfl)) ?_
                refine rg_put (d := 26) (v := .d (.fl (.int .i64 (((i : Int) + 1))))) rfl (og rfl (op_bin rfl rfl rfl (fun x y w => b_add64 _ _ _ x y w (by omega)) rfl)) ?_
                refine rg_put (d := 8) (v := .d (.fl (.int .i64 (((i : Int) + 1))))) rfl (og rfl (op_assign rfl rfl rfl)) ?_
                refine rg_done rfl ?_
                have hki : tc r w (ix r i) k = fc r w (ix r i) := by unfold fc; rw [show k = r.length from by omega]
                have hst : ra r w (i + 1) = ((ra r w i).1, (ra r w i).2) := by rw [ra, ← hki]; simp only [h11, h13, h15, Bool.true_or, Bool.false_or, Bool.or_true, Bool.or_false, Bool.not_true, Bool.not_false, cond_true, cond_false, Bool.true_and, Bool.false_and, Bool.and_true, Bool.and_false] <;> rfl
                show ∃ i, _ ∧ _ ∧ Imp _ _ _ _ _
                refine ⟨i + 1, ⟨by omega, fun _ => by obtain ⟨q, e1, e2, _⟩ := ra_inv (r := r) (w := w) i (by omega); rw [e1]; omega⟩, by omega, imp_forget rfl ⟨rfl, rfl, rfl, rfl, rfl, (by first | rfl | exact ci (by omega)), (ci (by rw [hst])), (ci (by rw [hst])), trivial⟩ trivial⟩
              · skip
                have h17 := t_beq h15
                refine dr_put (d := 62) (v := .d (.sl 1 (List.map rS r))) rfl (oy rfl rfl rfl h15 (op_move rfl rfl rfl)) ?_
                refine dr_put (d := 63) (v := .d (.fl (.int .i64 (i : Int)))) rfl (oy rfl rfl rfl h15 (op_move rfl rfl rfl)) ?_
                refine dr_put (d := 64) (v := .el ((rS (ix r i)))) rfl (oy rfl rfl rfl h15 (s_index rfl Tryd.underlying32 ti9 rfl rfl (by omega) (row_at (by omega)) rfl)) ?_
                refine dr_put (d := 65) (v := .d (.fl (.string (ix r i)))) rfl (oy rfl rfl rfl h15 (op_load_el rfl Tryd.underlying9 rfl rfl rfl rfl)) ?_
                refine dr_put (d := 66) (v := .d (.sl 1 (List.map rS r))) rfl (oy rfl rfl rfl h15 (op_move rfl rfl rfl)) ?_
                refine dr_put (d := 67) (v := .d (.fl (.int .i64 ((ra r w i).2)))) rfl (oy rfl rfl rfl h15 (op_move rfl rfl rfl)) ?_
                refine dr_put (d := 68) (v := .el ((rS ((ix r ((ra r w i).2).toNat))))) rfl (oy rfl rfl rfl h15 (s_index rfl Tryd.underlying32 ti9 rfl rfl (by omega) (row_atI (by omega) (by omega)) rfl)) ?_
                refine dr_put (d := 69) (v := .d (.fl (.string ((ix r ((ra r w i).2).toNat))))) rfl (oy rfl rfl rfl h15 (op_load_el rfl Tryd.underlying9 rfl rfl rfl rfl)) ?_
                refine dr_put (d := 70) (v := .d (.fl (.bool ((sLt (ix r i) ((ix r ((ra r w i).2).toNat))))))) rfl (oy rfl rfl rfl h15 (op_call rfl Tryd.func41 nm41 rfl (.cons rfl (.d _) (.cons rfl (.d _) .nil)) (befR (ix r i) ((ix r ((ra r w i).2).toNat)) (hz _ (ix_mem (by omega))) (hz _ (ix_mem (by omega)))) rfl)) ?_
                refine dr_put (d := 71) (v := .d (.fl (.bool ((sLt (ix r i) ((ix r ((ra r w i).2).toNat))))))) rfl (oy rfl rfl rfl h13 (op_pick rfl rfl (by rw [h15]; rfl) rfl)) ?_
                refine dr_put (d := 72) (v := .d (.fl (.bool ((sLt (ix r i) ((ix r ((ra r w i).2).toNat))))))) rfl (og rfl (op_pick rfl rfl (by rw [h13]; rfl) rfl)) ?_
                refine dr_done rfl (sepB_of [0, 1, 3, 7, 7, 31, 63, 127, 255, 255, 1023, 2047, 4095, 4095, 16383, 32767, 4095, 4095, 200703, 462847, 1048575, 2097151, 4194303] (by kernel_rfl)) (by kernel_rfl) ?_
                refine a_cond rfl (fun h18 => ?_) (fun h18 => ?_)
                · skip
                  refine a_region ?_
                  refine rg_put (d := 73) (v := .d (.fl (.int .i64 ((tc r w (ix r i) k))))) rfl (og rfl (op_move rfl rfl rfl)) ?_
                  refine rg_put (d := 74) (v := .d (.fl (.int .i64 (i : Int)))) rfl (og rfl (op_move rfl rfl rfl)) ?_
                  refine rg_put (d := 6) (v := .d (.fl (.int .i64 ((tc r w (ix r i) k))))) rfl (og rfl (op_assign rfl rfl rfl)) ?_
                  refine rg_put (d := 7) (v := .d (.fl (.int .i64 (i : Int)))) rfl (og rfl (op_assign rfl rfl rfl)) ?_
                  refine rg_done rfl ?_
                  show A _ _ _ _ _ _ _
                  refine a_region ?_
                  refine rg_put (d := 25) (v := .d (.fl (.int .i64 (i : Int)))) rfl (og rfl (op_move rfl rfl rfl)) ?_
                  refine rg_put (d := 26) (v := .d (.fl (.int .i64 (((i : Int) + 1))))) rfl (og rfl (op_bin rfl rfl rfl (fun x y w => b_add64 _ _ _ x y w (by omega)) rfl)) ?_
                  refine rg_put (d := 8) (v := .d (.fl (.int .i64 (((i : Int) + 1))))) rfl (og rfl (op_assign rfl rfl rfl)) ?_
                  refine rg_done rfl ?_
                  have hki : tc r w (ix r i) k = fc r w (ix r i) := by unfold fc; rw [show k = r.length from by omega]
                  have hst : ra r w (i + 1) = ((tc r w (ix r i) k), (i : Int)) := by rw [ra, ← hki]; simp only [h11, h13, h15, h18, Bool.true_or, Bool.false_or, Bool.or_true, Bool.or_false, Bool.not_true, Bool.not_false, cond_true, cond_false, Bool.true_and, Bool.false_and, Bool.and_true, Bool.and_false] <;> rfl
                  show ∃ i, _ ∧ _ ∧ Imp _ _ _ _ _
                  refine ⟨i + 1, ⟨by omega, fun _ => by obtain ⟨q, e1, e2, _⟩ := ra_inv (r := r) (w := w) i (by omega); rw [e1]; omega⟩, by omega, imp_forget rfl ⟨rfl, rfl, rfl, rfl, rfl, (by first | rfl | exact ci (by omega)), (ci (by rw [hst])), (ci (by rw [hst])), trivial⟩ trivial⟩
                · skip
                  refine a_skip ?_
                  show A _ _ _ _ _ _ _
                  refine a_region ?_
                  refine rg_put (d := 25) (v := .d (.fl (.int .i64 (i : Int)))) rfl (og rfl (op_move rfl rfl rfl)) ?_
                  refine rg_put (d := 26) (v := .d (.fl (.int .i64 (((i : Int) + 1))))) rfl (og rfl (op_bin rfl rfl rfl (fun x y w => b_add64 _ _ _ x y w (by omega)) rfl)) ?_
                  refine rg_put (d := 8) (v := .d (.fl (.int .i64 (((i : Int) + 1))))) rfl (og rfl (op_assign rfl rfl rfl)) ?_
                  refine rg_done rfl ?_
                  have hki : tc r w (ix r i) k = fc r w (ix r i) := by unfold fc; rw [show k = r.length from by omega]
                  have hst : ra r w (i + 1) = ((ra r w i).1, (ra r w i).2) := by rw [ra, ← hki]; simp only [h11, h13, h15, h18, Bool.true_or, Bool.false_or, Bool.or_true, Bool.or_false, Bool.not_true, Bool.not_false, cond_true, cond_false, Bool.true_and, Bool.false_and, Bool.and_true, Bool.and_false] <;> rfl
                  show ∃ i, _ ∧ _ ∧ Imp _ _ _ _ _
                  refine ⟨i + 1, ⟨by omega, fun _ => by obtain ⟨q, e1, e2, _⟩ := ra_inv (r := r) (w := w) i (by omega); rw [e1]; omega⟩, by omega, imp_forget rfl ⟨rfl, rfl, rfl, rfl, rfl, (by first | rfl | exact ci (by omega)), (ci (by rw [hst])), (ci (by rw [hst])), trivial⟩ trivial⟩
            · skip
              have h19 := t_dec h13
              refine dr_put (d := 58) (v := .d (.fl undef)) rfl (on rfl rfl rfl h13) ?_
              refine dr_put (d := 59) (v := .d (.fl undef)) rfl (on rfl rfl rfl h13) ?_
              refine dr_put (d := 60) (v := .d (.fl undef)) rfl (on rfl rfl rfl h13) ?_
              refine dr_put (d := 61) (v := .d (.fl undef)) rfl (on rfl rfl rfl h13) ?_
              refine dr_put (d := 62) (v := .d (.fl undef)) rfl (ou rfl rfl rfl) ?_
              refine dr_put (d := 63) (v := .d (.fl undef)) rfl (ou rfl rfl rfl) ?_
              refine dr_put (d := 64) (v := .d (.fl undef)) rfl (ou rfl rfl rfl) ?_
              refine dr_put (d := 65) (v := .d (.fl undef)) rfl (ou rfl rfl rfl) ?_
              refine dr_put (d := 66) (v := .d (.fl undef)) rfl (ou rfl rfl rfl) ?_
              refine dr_put (d := 67) (v := .d (.fl undef)) rfl (ou rfl rfl rfl) ?_
              refine dr_put (d := 68) (v := .d (.fl undef)) rfl (ou rfl rfl rfl) ?_
              refine dr_put (d := 69) (v := .d (.fl undef)) rfl (ou rfl rfl rfl) ?_
              refine dr_put (d := 70) (v := .d (.fl undef)) rfl (ou rfl rfl rfl) ?_
              refine dr_put (d := 71) (v := .d (.fl undef)) rfl (on rfl rfl rfl h13) ?_
              refine dr_put (d := 72) (v := .d (.fl (.bool true))) rfl (og rfl (op_pick rfl rfl (by rw [h13]; rfl) rfl)) ?_
              refine dr_done rfl (sepB_of [0, 1, 3, 7, 7, 31, 63, 127, 255, 255, 1023, 2047, 4095, 4095, 16383, 32767, 4095, 4095, 200703, 462847, 1048575, 2097151, 4194303] (by kernel_rfl)) (by kernel_rfl) ?_
              refine a_condK rfl rfl ?_
              refine a_region ?_
              refine rg_put (d := 73) (v := .d (.fl (.int .i64 ((tc r w (ix r i) k))))) rfl (og rfl (op_move rfl rfl rfl)) ?_
              refine rg_put (d := 74) (v := .d (.fl (.int .i64 (i : Int)))) rfl (og rfl (op_move rfl rfl rfl)) ?_
              refine rg_put (d := 6) (v := .d (.fl (.int .i64 ((tc r w (ix r i) k))))) rfl (og rfl (op_assign rfl rfl rfl)) ?_
              refine rg_put (d := 7) (v := .d (.fl (.int .i64 (i : Int)))) rfl (og rfl (op_assign rfl rfl rfl)) ?_
              refine rg_done rfl ?_
              show A _ _ _ _ _ _ _
              refine a_region ?_
              refine rg_put (d := 25) (v := .d (.fl (.int .i64 (i : Int)))) rfl (og rfl (op_move rfl rfl rfl)) ?_
              refine rg_put (d := 26) (v := .d (.fl (.int .i64 (((i : Int) + 1))))) rfl (og rfl (op_bin rfl rfl rfl (fun x y w => b_add64 _ _ _ x y w (by omega)) rfl)) ?_
              refine rg_put (d := 8) (v := .d (.fl (.int .i64 (((i : Int) + 1))))) rfl (og rfl (op_assign rfl rfl rfl)) ?_
              refine rg_done rfl ?_
              have hki : tc r w (ix r i) k = fc r w (ix r i) := by unfold fc; rw [show k = r.length from by omega]
              have hst : ra r w (i + 1) = ((tc r w (ix r i) k), (i : Int)) := by rw [ra, ← hki]; simp only [h11, h13, Bool.true_or, Bool.false_or, Bool.or_true, Bool.or_false, Bool.not_true, Bool.not_false, cond_true, cond_false, Bool.true_and, Bool.false_and, Bool.and_true, Bool.and_false] <;> rfl
              show ∃ i, _ ∧ _ ∧ Imp _ _ _ _ _
              refine ⟨i + 1, ⟨by omega, fun _ => by obtain ⟨q, e1, e2, _⟩ := ra_inv (r := r) (w := w) i (by omega); rw [e1]; omega⟩, by omega, imp_forget rfl ⟨rfl, rfl, rfl, rfl, rfl, (by first | rfl | exact ci (by omega)), (ci (by rw [hst])), (ci (by rw [hst])), trivial⟩ trivial⟩
          · skip
            have h20 := t_dec h11
            refine dr_put (d := 53) (v := .d (.fl undef)) rfl (on rfl rfl rfl h11) ?_
            refine dr_put (d := 54) (v := .d (.fl undef)) rfl (on rfl rfl rfl h11) ?_
            refine dr_put (d := 55) (v := .d (.fl undef)) rfl (on rfl rfl rfl h11) ?_
            refine dr_put (d := 56) (v := .d (.fl (.bool true))) rfl (og rfl (op_pick rfl rfl (by rw [h11]; rfl) rfl)) ?_
            refine dr_put (d := 57) (v := .d (.fl (.bool true))) rfl (og rfl (op_move rfl rfl rfl)) ?_
            refine dr_put (d := 58) (v := .d (.fl undef)) rfl (on rfl rfl rfl rfl) ?_
            refine dr_put (d := 59) (v := .d (.fl undef)) rfl (on rfl rfl rfl rfl) ?_
            refine dr_put (d := 60) (v := .d (.fl undef)) rfl (on rfl rfl rfl rfl) ?_
            refine dr_put (d := 61) (v := .d (.fl undef)) rfl (on rfl rfl rfl rfl) ?_
            refine dr_put (d := 62) (v := .d (.fl undef)) rfl (ou rfl rfl rfl) ?_
            refine dr_put (d := 63) (v := .d (.fl undef)) rfl (ou rfl rfl rfl) ?_
            refine dr_put (d := 64) (v := .d (.fl undef)) rfl (ou rfl rfl rfl) ?_
            refine dr_put (d := 65) (v := .d (.fl undef)) rfl (ou rfl rfl rfl) ?_
            refine dr_put (d := 66) (v := .d (.fl undef)) rfl (ou rfl rfl rfl) ?_
            refine dr_put (d := 67) (v := .d (.fl undef)) rfl (ou rfl rfl rfl) ?_
            refine dr_put (d := 68) (v := .d (.fl undef)) rfl (ou rfl rfl rfl) ?_
            refine dr_put (d := 69) (v := .d (.fl undef)) rfl (ou rfl rfl rfl) ?_
            refine dr_put (d := 70) (v := .d (.fl undef)) rfl (ou rfl rfl rfl) ?_
            refine dr_put (d := 71) (v := .d (.fl undef)) rfl (on rfl rfl rfl rfl) ?_
            refine dr_put (d := 72) (v := .d (.fl (.bool true))) rfl (og rfl (op_pick rfl rfl rfl rfl)) ?_
            refine dr_done rfl (sepB_of [0, 1, 3, 7, 7, 31, 63, 127, 255, 255, 1023, 2047, 4095, 4095, 16383, 32767, 4095, 4095, 200703, 462847, 1048575, 2097151, 4194303] (by kernel_rfl)) (by kernel_rfl) ?_
            refine a_condK rfl rfl ?_
            refine a_region ?_
            refine rg_put (d := 73) (v := .d (.fl (.int .i64 ((tc r w (ix r i) k))))) rfl (og rfl (op_move rfl rfl rfl)) ?_
            refine rg_put (d := 74) (v := .d (.fl (.int .i64 (i : Int)))) rfl (og rfl (op_move rfl rfl rfl)) ?_
            refine rg_put (d := 6) (v := .d (.fl (.int .i64 ((tc r w (ix r i) k))))) rfl (og rfl (op_assign rfl rfl rfl)) ?_
            refine rg_put (d := 7) (v := .d (.fl (.int .i64 (i : Int)))) rfl (og rfl (op_assign rfl rfl rfl)) ?_
            refine rg_done rfl ?_
            show A _ _ _ _ _ _ _
            refine a_region ?_
            refine rg_put (d := 25) (v := .d (.fl (.int .i64 (i : Int)))) rfl (og rfl (op_move rfl rfl rfl)) ?_
            refine rg_put (d := 26) (v := .d (.fl (.int .i64 (((i : Int) + 1))))) rfl (og rfl (op_bin rfl rfl rfl (fun x y w => b_add64 _ _ _ x y w (by omega)) rfl)) ?_
            refine rg_put (d := 8) (v := .d (.fl (.int .i64 (((i : Int) + 1))))) rfl (og rfl (op_assign rfl rfl rfl)) ?_
            refine rg_done rfl ?_
            have hki : tc r w (ix r i) k = fc r w (ix r i) := by unfold fc; rw [show k = r.length from by omega]
            have hst : ra r w (i + 1) = ((tc r w (ix r i) k), (i : Int)) := by rw [ra, ← hki]; simp only [h11, Bool.true_or, Bool.false_or, Bool.or_true, Bool.or_false, Bool.not_true, Bool.not_false, cond_true, cond_false, Bool.true_and, Bool.false_and, Bool.and_true, Bool.and_false] <;> rfl
            show ∃ i, _ ∧ _ ∧ Imp _ _ _ _ _
            refine ⟨i + 1, ⟨by omega, fun _ => by obtain ⟨q, e1, e2, _⟩ := ra_inv (r := r) (w := w) i (by omega); rw [e1]; omega⟩, by omega, imp_forget rfl ⟨rfl, rfl, rfl, rfl, rfl, (by first | rfl | exact ci (by omega)), (ci (by rw [hst])), (ci (by rw [hst])), trivial⟩ trivial⟩
      · skip
        have h21 := f_dec h6
        refine a_exit ?_
        show A _ _ _ _ _ _ _
        refine a_rseq ?_
        have hat2 := hat (by omega)
        refine rg_put (d := 75) (v := .d (.sl 1 (List.map rS r))) rfl (og rfl (op_move rfl rfl rfl)) ?_
        refine rg_put (d := 76) (v := .d (.fl (.int .i64 ((ra r w i).2)))) rfl (og rfl (op_move rfl rfl rfl)) ?_
        refine rg_put (d := 77) (v := .el ((rS ((ix r ((ra r w i).2).toNat))))) rfl (og rfl (s_index rfl Tryd.underlying32 ti9 rfl rfl (by omega) (row_atI (by omega) (by omega)) rfl)) ?_
        refine rg_put (d := 78) (v := .d (.fl (.string ((ix r ((ra r w i).2).toNat))))) rfl (og rfl (op_load_el rfl Tryd.underlying9 rfl rfl rfl rfl)) ?_
        refine rg_put (d := 79) (v := .d (.fl (.int .i64 ((ra r w i).1)))) rfl (og rfl (op_move rfl rfl rfl)) ?_
        refine rg_put (d := 4) (v := .d (.fl (.string ((ix r ((ra r w i).2).toNat))))) rfl (og rfl (op_assign rfl rfl rfl)) ?_
        refine rg_put (d := 5) (v := .d (.fl (.int .i64 ((ra r w i).1)))) rfl (og rfl (op_assign rfl rfl rfl)) ?_
        refine rg_done rfl ?_
        refine a_ret ?_
        show ∃ ds, ResL _ _ _ ds ∧ RV.of ds = _
        refine ⟨[.fl (.string ((ix r ((ra r w i).2).toNat))), .fl (.int .i64 ((ra r w i).1))], (.cons (.tmp rfl (.d _)) (.cons (.tmp rfl (.d _)) .nil)), ?_⟩
        rw [show vt r w = (ix r (ra r w i).2.toNat, (ra r w i).1) from by unfold vt; rw [if_neg (by omega), show r.length = i from by omega]]; rfl
  · skip
    have h22 := t_beq h1
    refine rg_put (d := 15) (v := .d (.fl undef)) rfl (on rfl rfl rfl h1) ?_
    refine rg_put (d := 16) (v := .d (.fl undef)) rfl (on rfl rfl rfl h1) ?_
    refine rg_put (d := 17) (v := .d (.fl undef)) rfl (on rfl rfl rfl h1) ?_
    refine rg_put (d := 18) (v := .d (.fl undef)) rfl (on rfl rfl rfl h1) ?_
    refine rg_put (d := 19) (v := .d (.fl undef)) rfl (on rfl rfl rfl h1) ?_
    refine rg_put (d := 20) (v := .d (.fl (.bool true))) rfl (og rfl (op_pick rfl rfl (by rw [h1]; rfl) rfl)) ?_
    refine rg_done rfl ?_
    refine a_condK rfl rfl ?_
    refine a_rseq ?_
    refine rg_put (d := 4) (v := .d (.fl (.string (⟨#[]⟩)))) rfl (og rfl (op_assign rfl rfl rfl)) ?_
    refine rg_put (d := 5) (v := .d (.fl (.int .i64 0))) rfl (og rfl (op_assign rfl rfl rfl)) ?_
    refine rg_done rfl ?_
    refine a_ret ?_
    show ∃ ds, ResL _ _ _ ds ∧ RV.of ds = _
    refine ⟨[.fl (.string (⟨#[]⟩)), .fl (.int .i64 0)], (.cons (.tmp rfl (.d _)) (.cons (.tmp rfl (.d _)) .nil)), ?_⟩
    rw [show vt r w = (⟨#[]⟩, 0) from if_pos (by omega)]; rfl
set_option maxHeartbeats 4000000 in
set_option maxRecDepth 100000 in
theorem votC (r : List ByteArray) (w : List Int) (hr : r.length ≤ 20) (hz : ∀ s ∈ r, s.size ≤ 60) (hw9 : w.length ≤ 9223372036854775807) : Ctr Tryd.prog 24 [.sl 1 (List.map rS r), .sl 1 (List.map (rI .i64) w)] (.tu [.fl (.string (vt r w).1), .fl (.int .i64 (vt r w).2)]) := by
  refine ctr (n := 102) (rs := #[.tmp 4, .tmp 5]) (L := [(0, .d (.sl 1 (List.map rS r))), (1, .d (.sl 1 (List.map (rI .i64) w)))]) Tryd.func24 rfl rfl rfl rfl rfl (fun w0 U0 => ?_)
  refine a_rseq ?_
  refine rg_put (d := 4) (v := .d (.fl (.string (⟨#[]⟩)))) rfl (og rfl (op_assign rfl rfl rfl)) ?_
  refine rg_put (d := 5) (v := .d (.fl (.int .i64 0))) rfl (og rfl (op_assign rfl rfl rfl)) ?_
  refine rg_done rfl ?_
  refine a_seq ?_
  refine a_rseq ?_
  refine rg_put (d := 19) (v := .d (.sl 1 (List.map rS r))) rfl (og rfl (op_move rfl rfl rfl)) ?_
  refine rg_put (d := 20) (v := .d (.fl (.int .i64 (r.length : Int)))) rfl (og rfl (s_len rfl Tryd.underlying32 rfl rfl)) ?_
  refine rg_put (d := 21) (v := .d (.fl (.bool (((r.length : Int) == 0))))) rfl (og rfl (op_bin rfl rfl rfl (b_eql _ _ _ _) rfl)) ?_
  refine rg_put (d := 22) (v := .d (.fl (.bool (((r.length : Int) == 0))))) rfl (og rfl (op_move rfl rfl rfl)) ?_
  rcases fot (((r.length : Int) == 0)) with h1 | h1
  · skip
    have h2 := f_beq h1
    refine rg_put (d := 23) (v := .d (.sl 1 (List.map rS r))) rfl (oy rfl rfl rfl h1 (op_move rfl rfl rfl)) ?_
    refine rg_put (d := 24) (v := .d (.fl (.int .i64 (r.length : Int)))) rfl (oy rfl rfl rfl h1 (s_len rfl Tryd.underlying32 rfl rfl)) ?_
    refine rg_put (d := 25) (v := .d (.sl 1 (List.map (rI .i64) w))) rfl (oy rfl rfl rfl h1 (op_move rfl rfl rfl)) ?_
    refine rg_put (d := 26) (v := .d (.fl (.int .i64 (w.length : Int)))) rfl (oy rfl rfl rfl h1 (s_len rfl Tryd.underlying37 rfl rfl)) ?_
    refine rg_put (d := 27) (v := .d (.fl (.bool (((r.length : Int) != (w.length : Int)))))) rfl (oy rfl rfl rfl h1 (op_bin rfl rfl rfl (b_neq _ _ _ _) rfl)) ?_
    refine rg_put (d := 28) (v := .d (.fl (.bool (((r.length : Int) != (w.length : Int)))))) rfl (og rfl (op_pick rfl rfl (by rw [h1]; rfl) rfl)) ?_
    refine rg_done rfl ?_
    refine a_cond rfl (fun h3 => ?_) (fun h3 => ?_)
    · skip
      have h4 := t_bne h3
      refine a_rseq ?_
      refine rg_put (d := 4) (v := .d (.fl (.string (⟨#[]⟩)))) rfl (og rfl (op_assign rfl rfl rfl)) ?_
      refine rg_put (d := 5) (v := .d (.fl (.int .i64 0))) rfl (og rfl (op_assign rfl rfl rfl)) ?_
      refine rg_done rfl ?_
      refine a_ret ?_
      show ∃ ds, ResL _ _ _ ds ∧ RV.of ds = _
      refine ⟨[.fl (.string (⟨#[]⟩)), .fl (.int .i64 0)], (.cons (.tmp rfl (.d _)) (.cons (.tmp rfl (.d _)) .nil)), ?_⟩
      rw [show vt r w = (⟨#[]⟩, 0) from if_pos (by omega)]; rfl
    · skip
      have h5 := f_bne h3
      refine a_skip ?_
      show A _ _ _ _ _ _ _
      refine a_rseq ?_
      refine rg_nam (d := 29) (v := .ow 101) (m := 101) (nw := [(101, .mp [])]) rfl (og rfl (op_makeMap 101 rfl rfl)) rfl ?_
      refine rg_put (d := 6) (v := .ow 101) rfl (og rfl (op_assign rfl rfl rfl)) ?_
      refine rg_done rfl ?_
      refine a_seq ?_
      refine a_rseq ?_
      refine rg_put (d := 30) (v := .d (.sl 1 (List.map rS r))) rfl (og rfl (op_move rfl rfl rfl)) ?_
      refine rg_put (d := 31) (v := .d (.fl (.int .i64 (r.length : Int)))) rfl (og rfl (s_len rfl Tryd.underlying32 rfl rfl)) ?_
      refine rg_put (d := 32) (v := .d (.fl (.int .i64 0))) rfl (og rfl (op_move rfl rfl rfl)) ?_
      refine rg_done rfl ?_
      refine a_block ?_
      refine a_loop (ι := Nat) (fun k => SS [(0, .d (.sl 1 (List.map rS r))), (1, .d (.sl 1 (List.map (rI .i64) w))), (4, .d (.fl (.string (⟨#[]⟩)))), (5, .d (.fl (.int .i64 0))), (6, .ow 101), (28, .d (.fl (.bool (((r.length : Int) != (w.length : Int)))))), (30, .d (.sl 1 (List.map rS r))), (31, .d (.fl (.int .i64 (r.length : Int)))), (32, .d (.fl (.int .i64 (k : Int))))] [(101, .mp (entR r w k))]) (fun k => k ≤ r.length) (fun k => r.length - k) 0 (by omega) (imp_forget rfl ⟨rfl, rfl, rfl, rfl, rfl, rfl, rfl, rfl, (by first | rfl | exact ci (by omega) | exact ci (by simp) | exact cd (by simp) | simp), trivial⟩ ⟨rfl, trivial⟩) (fun k hok => ?_)
      have hk := hok
      have hsw := sw_in r w (ix r k) k
      have hwt := wt_in (ix w k)
      have hwd : min (max (ix w k) 0) 1000 = wt (ix w k) := rfl
      refine a_rseq ?_
      refine rg_put (d := 33) (v := .d (.fl (.bool ((decide ((k : Int) < (r.length : Int))))))) rfl (og rfl (op_bin rfl rfl rfl (b_lss _ _ _ _) rfl)) ?_
      refine rg_done rfl ?_
      refine a_seq ?_
      refine a_cond rfl (fun h6 => ?_) (fun h6 => ?_)
      · skip
        have h7 := t_dec h6
        refine a_skip ?_
        show A _ _ _ _ _ _ _
        refine a_seq ?_
        refine a_block ?_
        refine a_rseq ?_
        refine rg_put (d := 34) (v := .d (.fl (.int .i64 (k : Int)))) rfl (og rfl (op_move rfl rfl rfl)) ?_
        refine rg_put (d := 35) (v := .el ((rS (ix r k)))) rfl (og rfl (s_index rfl Tryd.underlying32 ti9 rfl rfl (by omega) (row_at (by omega)) rfl)) ?_
        refine rg_put (d := 36) (v := .d (.fl (.string (ix r k)))) rfl (og rfl (op_load_el rfl Tryd.underlying9 rfl rfl rfl rfl)) ?_
        refine rg_put (d := 7) (v := .d (.fl (.int .i64 (k : Int)))) rfl (og rfl (op_assign rfl rfl rfl)) ?_
        refine rg_put (d := 8) (v := .d (.fl (.string (ix r k)))) rfl (og rfl (op_assign rfl rfl rfl)) ?_
        refine rg_done rfl ?_
        refine a_draw (by kernel_rfl) ?_
        refine dr_put (d := 37) (v := .ow 101) rfl (og rfl (op_move rfl rfl rfl)) ?_
        refine dr_put (d := 38) (v := .d (.fl (.string (ix r k)))) rfl (og rfl (op_move rfl rfl rfl)) ?_
        rcases fot (((fk r k).any (fun y => sEq y (ix r k)))) with h8 | h8
        · skip
          refine dr_put (d := 39) (v := .d (.fl (.int .i64 0))) rfl (og rfl (op_lookup1 rfl Tryd.underlying48 Tryd.underlying9 rfl ti3 rfl rfl (.ow rfl) rfl (r := none) ((mfindW _ _ _ _).trans (by rw [show (fk r k).any (fun y => sEq y (ix r k)) = false from h8]; rfl)) rfl rfl)) ?_
          refine dr_put (d := 40) (v := .d (.sl 1 (List.map (rI .i64) w))) rfl (og rfl (op_move rfl rfl rfl)) ?_
          refine dr_put (d := 41) (v := .d (.fl (.int .i64 (k : Int)))) rfl (og rfl (op_move rfl rfl rfl)) ?_
          refine dr_put (d := 42) (v := .el ((rI .i64 (ix w k)))) rfl (og rfl (s_index rfl Tryd.underlying37 ti3 rfl rfl (by omega) (row_at (by omega)) rfl)) ?_
          refine dr_put (d := 43) (v := .d (.fl (.int .i64 (ix w k)))) rfl (og rfl (op_load_el rfl Tryd.underlying3 rfl rfl rfl rfl)) ?_
          refine dr_put (d := 44) (v := .d (.fl (.int .i64 ((max (ix w k) 0))))) rfl (og rfl (op_max rfl rfl rfl rfl)) ?_
          refine dr_put (d := 45) (v := .d (.fl (.int .i64 ((min ((max (ix w k) 0)) 1000))))) rfl (og rfl (op_min rfl rfl rfl rfl)) ?_
          refine dr_put (d := 46) (v := .d (.fl (.int .i64 ((0 + (min ((max (ix w k) 0)) 1000)))))) rfl (og rfl (op_bin rfl rfl rfl (fun x y w => b_add64 _ _ _ x y w (by omega)) rfl)) ?_
          refine dr_sto (nw := [(101, .mp ((entR r w k) ++ [((.string (ix r k)), .fl (.int .i64 ((0 + (min ((max (ix w k) 0)) 1000)))))]))]) rfl (og rfl (op_mapPush rfl rfl Tryd.underlying48 Tryd.underlying9 rfl rfl rfl rfl ((mfindW _ _ _ _).trans (by rw [show (fk r k).any (fun y => sEq y (ix r k)) = false from h8]; rfl)) rfl)) ?_
          refine dr_done rfl (by kernel_rfl) (by kernel_rfl) ?_
          show A _ _ _ _ _ _ _
          refine a_region ?_
          refine rg_put (d := 47) (v := .d (.fl (.int .i64 (((k : Int) + 1))))) rfl (og rfl (op_bin rfl rfl rfl (fun x y w => b_add64 _ _ _ x y w (by omega)) rfl)) ?_
          refine rg_put (d := 32) (v := .d (.fl (.int .i64 (((k : Int) + 1))))) rfl (og rfl (op_move rfl rfl rfl)) ?_
          refine rg_done rfl ?_
          have hst : ((entR r w k) ++ [((.string (ix r k)), .fl (.int .i64 ((0 + (min ((max (ix w k) 0)) 1000)))))]) = entR r w (k + 1) := ent_new h8
          show ∃ i, _ ∧ _ ∧ Imp _ _ _ _ _
          refine ⟨k + 1, (by omega), by omega, imp_forget rfl ⟨rfl, rfl, rfl, rfl, rfl, rfl, rfl, rfl, (by first | rfl | exact ci (by omega) | exact ci (by simp) | exact cd (by simp) | simp), trivial⟩ ⟨(congrArg (fun z => Ob.mp z) hst), trivial⟩⟩
        · skip
          refine dr_put (d := 39) (v := .d (.fl (.int .i64 ((sw r w (ix r k) k))))) rfl (og rfl (op_lookup1 rfl Tryd.underlying48 Tryd.underlying9 rfl ti3 rfl rfl (.ow rfl) rfl (r := (some (.fl (.int .i64 ((sw r w (ix r k) k)))))) ((mfindW _ _ _ _).trans (by rw [show (fk r k).any (fun y => sEq y (ix r k)) = true from h8]; rfl)) rfl rfl)) ?_
          refine dr_put (d := 40) (v := .d (.sl 1 (List.map (rI .i64) w))) rfl (og rfl (op_move rfl rfl rfl)) ?_
          refine dr_put (d := 41) (v := .d (.fl (.int .i64 (k : Int)))) rfl (og rfl (op_move rfl rfl rfl)) ?_
          refine dr_put (d := 42) (v := .el ((rI .i64 (ix w k)))) rfl (og rfl (s_index rfl Tryd.underlying37 ti3 rfl rfl (by omega) (row_at (by omega)) rfl)) ?_
          refine dr_put (d := 43) (v := .d (.fl (.int .i64 (ix w k)))) rfl (og rfl (op_load_el rfl Tryd.underlying3 rfl rfl rfl rfl)) ?_
          refine dr_put (d := 44) (v := .d (.fl (.int .i64 ((max (ix w k) 0))))) rfl (og rfl (op_max rfl rfl rfl rfl)) ?_
          refine dr_put (d := 45) (v := .d (.fl (.int .i64 ((min ((max (ix w k) 0)) 1000))))) rfl (og rfl (op_min rfl rfl rfl rfl)) ?_
          refine dr_put (d := 46) (v := .d (.fl (.int .i64 (((sw r w (ix r k) k) + (min ((max (ix w k) 0)) 1000)))))) rfl (og rfl (op_bin rfl rfl rfl (fun x y w => b_add64 _ _ _ x y w (by omega)) rfl)) ?_
          refine dr_sto (nw := [(101, .mp (mput .string ((.string (ix r k))) (.fl (.int .i64 (((sw r w (ix r k) k) + (min ((max (ix w k) 0)) 1000))))) (entR r w k)))]) rfl (og rfl (op_mapSet rfl rfl Tryd.underlying48 Tryd.underlying9 rfl rfl rfl rfl ((mfindW _ _ _ _).trans (by rw [show (fk r k).any (fun y => sEq y (ix r k)) = true from h8]; rfl)) rfl (stays_str _))) ?_
          refine dr_done rfl (by kernel_rfl) (by kernel_rfl) ?_
          show A _ _ _ _ _ _ _
          refine a_region ?_
          refine rg_put (d := 47) (v := .d (.fl (.int .i64 (((k : Int) + 1))))) rfl (og rfl (op_bin rfl rfl rfl (fun x y w => b_add64 _ _ _ x y w (by omega)) rfl)) ?_
          refine rg_put (d := 32) (v := .d (.fl (.int .i64 (((k : Int) + 1))))) rfl (og rfl (op_move rfl rfl rfl)) ?_
          refine rg_done rfl ?_
          have hst : (mput .string ((.string (ix r k))) (.fl (.int .i64 (((sw r w (ix r k) k) + (min ((max (ix w k) 0)) 1000))))) (entR r w k)) = entR r w (k + 1) := ent_put h8
          show ∃ i, _ ∧ _ ∧ Imp _ _ _ _ _
          refine ⟨k + 1, (by omega), by omega, imp_forget rfl ⟨rfl, rfl, rfl, rfl, rfl, rfl, rfl, rfl, (by first | rfl | exact ci (by omega) | exact ci (by simp) | exact cd (by simp) | simp), trivial⟩ ⟨(congrArg (fun z => Ob.mp z) hst), trivial⟩⟩
      · skip
        have h9 := f_dec h6
        refine a_exit ?_
        show A _ _ _ _ _ _ _
        refine a_rseq ?_
        have hke : k = r.length := by omega
        rw [show (entR r w k) = (entR r w r.length) from (by rw [hke])]
        refine rg_put (d := 9) (v := .d (.fl (.slice none 0 0))) rfl (og rfl (op_assign rfl rfl rfl)) ?_
        refine rg_done rfl ?_
        refine a_seq ?_
        refine a_rseq ?_
        refine rg_imp (imp_mp 6 101 rfl rfl) ?_
        refine rg_imp (imp_nilT 9 102 9 1 rfl rfl) ?_
        refine rg_put (d := 48) (v := .d (.mp (entR r w r.length))) rfl (og rfl (op_move rfl rfl rfl)) ?_
        refine rg_nam (d := 49) (v := .ow 103) (m := 103) (nw := [(103, .mi (List.map (fE r w r.length) (fk r r.length)) none)]) rfl (og rfl (op_rangeM 103 rfl Tryd.underlying48 rfl rfl)) rfl ?_
        refine rg_done rfl ?_
        refine a_block ?_
        refine a_loop (ι := List ByteArray × Option (Value × DV) × List ByteArray) (fun pr => SS [(0, .d (.sl 1 (List.map rS r))), (1, .d (.sl 1 (List.map (rI .i64) w))), (4, .d (.fl (.string (⟨#[]⟩)))), (5, .d (.fl (.int .i64 0))), (6, .d (.mp (entR r w r.length))), (28, .d (.fl (.bool (((r.length : Int) != (w.length : Int)))))), (30, .d (.sl 1 (List.map rS r))), (31, .d (.fl (.int .i64 (r.length : Int)))), (32, .d (.fl (.int .i64 (k : Int)))), (33, .d (.fl (.bool ((decide ((k : Int) < (r.length : Int))))))), (49, .ow 103), (9, .ow 102)] [(103, .mi (List.map (fE r w r.length) pr.1) pr.2.1), (102, .tr 9 1 (tD rS pr.2.2))]) (fun pr => (pr.2.2 ++ pr.1).Perm (fk r r.length)) (fun pr => pr.1.length) (((fk r r.length), none, [])) (List.Perm.refl _) (imp_forget rfl ⟨rfl, rfl, rfl, rfl, rfl, rfl, rfl, rfl, rfl, rfl, rfl, (by first | rfl | exact ci (by omega) | exact ci (by simp) | exact cd (by simp) | simp), trivial⟩ ⟨rfl, rfl, trivial⟩) (fun pr hok => ?_)
        have hp0 := hok
        have hcl0 : pr.2.2.length + pr.1.length = (fk r r.length).length := by have := hp0.length_eq; rwa [List.length_append] at this
        have hfl := fk_len r r.length
        refine a_rseq ?_
        refine rg_nextM (α := ByteArray) (f := (fE r w r.length)) (l := pr.1) rfl rfl rfl rfl rfl rfl rfl (fun h10 => ?_) (fun jh10 h10 => ?_)
        · skip
          refine rg_put (d := 51) (v := .d (.fl (.bool false))) rfl (og rfl (op_extract rfl rfl rfl rfl)) ?_
          refine rg_done rfl ?_
          refine a_seq ?_
          refine a_condF rfl rfl ?_
          refine a_exit ?_
          show A _ _ _ _ _ _ _
          refine a_rseq ?_
          have hz0 : pr.1 = [] := h10
          have hcp : pr.2.2.Perm (fk r r.length) := by have := hp0; rwa [hz0, List.append_nil] at this
          refine rg_put (d := 58) (v := .ow 102) rfl (og rfl (op_move rfl rfl rfl)) ?_
          refine rg_sortP (gα := rS) (fα := (fun s : ByteArray => Value.string s)) (sr := srtS) (l := pr.2.2) rfl rfl rfl rfl (by rfl) Tryd.func42 nm42 rfl rfl rfl (fun _ => rfl) (fun _ => rfl) sortStr srtS_len (by omega) ?_
          refine rg_done rfl ?_
          refine a_seq ?_
          refine a_rseq ?_
          rw [show (srtS pr.2.2) = (srtS (fk r r.length)) from (srtS_perm2 hcp)]
          have hul : (srtS (fk r r.length)).length ≤ 20 := by rw [srtS_len]; omega
          have hsub : ∀ s ∈ (srtS (fk r r.length)), s ∈ fk r r.length := fun s hs => (srtS_perm _).subset hs
          have hus : ∀ s ∈ (srtS (fk r r.length)), s.size ≤ 60 := fun s hs => by obtain ⟨q, h1, h2⟩ := (fk_mem _).1 (hsub s hs); rw [← h2]; exact hz _ (ix_mem h1)
          refine rg_put (d := 60) (v := .ow 102) rfl (og rfl (op_move rfl rfl rfl)) ?_
          refine rg_put (d := 61) (v := .d (.fl (.int .i64 ((((srtS (fk r r.length))).length : Int))))) rfl (og rfl (op_len_tr rfl Tryd.underlying32 rfl rfl tD_len rfl)) ?_
          refine rg_put (d := 62) (v := .d (.fl (.bool (((((srtS (fk r r.length))).length : Int) == 1))))) rfl (og rfl (op_bin rfl rfl rfl (b_eql _ _ _ _) rfl)) ?_
          refine rg_done rfl ?_
          refine a_cond rfl (fun h11 => ?_) (fun h11 => ?_)
          · skip
            have h12 := t_beq h11
            refine a_rseq ?_
            refine rg_put (d := 63) (v := .ow 102) rfl (og rfl (op_move rfl rfl rfl)) ?_
            refine rg_put (d := 64) (v := .pe 102 1 0 0) rfl (og rfl (op_index_tr rfl Tryd.underlying32 ti9 rfl rfl rfl (get_lt (tD_at (by omega))) rfl)) ?_
            refine rg_put (d := 65) (v := .d (.fl (.string ((ix ((srtS (fk r r.length))) 0))))) rfl (og rfl (of_eff (op_load_pe rfl Tryd.underlying9 rfl rfl rfl (tD_at (by omega)) rfl rfl) rfl)) ?_
            refine rg_put (d := 4) (v := .d (.fl (.string ((ix ((srtS (fk r r.length))) 0))))) rfl (og rfl (op_assign rfl rfl rfl)) ?_
            refine rg_put (d := 5) (v := .d (.fl (.int .i64 0))) rfl (og rfl (op_assign rfl rfl rfl)) ?_
            refine rg_done rfl ?_
            refine a_ret ?_
            show ∃ ds, ResL _ _ _ ds ∧ RV.of ds = _
            refine ⟨[.fl (.string ((ix ((srtS (fk r r.length))) 0))), .fl (.int .i64 0)], (.cons (.tmp rfl (.d _)) (.cons (.tmp rfl (.d _)) .nil)), ?_⟩
            rw [show vt r w = (ix (srtS (fk r r.length)) 0, 0) from (vt_bst (by omega) (by omega)).eq (one_bst (by omega))]; rfl
          · skip
            have h13 := f_beq h11
            refine a_skip ?_
            show A _ _ _ _ _ _ _
            refine a_rseq ?_
            refine rg_put (d := 66) (v := .d (.mp CMD)) rfl (og rfl (op_call rfl Tryd.func30 nm30 rfl .nil cm30 rfl)) ?_
            refine rg_put (d := 11) (v := .d (.mp CMD)) rfl (og rfl (op_assign rfl rfl rfl)) ?_
            refine rg_done rfl ?_
            refine a_rseq ?_
            refine rg_put (d := 12) (v := .d (.fl (.string (⟨#[]⟩)))) rfl (og rfl (op_assign rfl rfl rfl)) ?_
            refine rg_put (d := 13) (v := .d (.fl (.int .i64 (-1)))) rfl (og rfl (op_assign rfl rfl rfl)) ?_
            refine rg_done rfl ?_
            refine a_seq ?_
            refine a_rseq ?_
            refine rg_put (d := 67) (v := .ow 102) rfl (og rfl (op_move rfl rfl rfl)) ?_
            refine rg_put (d := 68) (v := .d (.fl (.int .i64 ((((srtS (fk r r.length))).length : Int))))) rfl (og rfl (op_len_tr rfl Tryd.underlying32 rfl rfl tD_len rfl)) ?_
            refine rg_put (d := 69) (v := .d (.fl (.int .i64 0))) rfl (og rfl (op_move rfl rfl rfl)) ?_
            refine rg_done rfl ?_
            refine a_block ?_
            refine a_loop (ι := Nat) (fun i => SS [(0, .d (.sl 1 (List.map rS r))), (1, .d (.sl 1 (List.map (rI .i64) w))), (4, .d (.fl (.string (⟨#[]⟩)))), (5, .d (.fl (.int .i64 0))), (6, .d (.mp (entR r w r.length))), (9, .ow 102), (11, .d (.mp CMD)), (28, .d (.fl (.bool (((r.length : Int) != (w.length : Int)))))), (30, .d (.sl 1 (List.map rS r))), (31, .d (.fl (.int .i64 (r.length : Int)))), (32, .d (.fl (.int .i64 (k : Int)))), (33, .d (.fl (.bool ((decide ((k : Int) < (r.length : Int))))))), (49, .ow 103), (51, .d (.fl (.bool false))), (62, .d (.fl (.bool (((((srtS (fk r r.length))).length : Int) == 1))))), (67, .ow 102), (68, .d (.fl (.int .i64 ((((srtS (fk r r.length))).length : Int))))), (69, .d (.fl (.int .i64 (i : Int)))), (12, .d (.fl (.string ((pb (fc r w) (srtS (fk r r.length)) i).1)))), (13, .d (.fl (.int .i64 ((pb (fc r w) (srtS (fk r r.length)) i).2))))] [(103, .mi (List.map (fE r w r.length) pr.1) pr.2.1), (102, .tr 9 1 (tD rS ((srtS (fk r r.length)))))]) (fun i => i ≤ (srtS (fk r r.length)).length) (fun i => (srtS (fk r r.length)).length - i) 0 (by omega) (imp_forget rfl ⟨rfl, rfl, rfl, rfl, rfl, rfl, rfl, rfl, rfl, rfl, rfl, rfl, rfl, rfl, rfl, rfl, rfl, (by first | rfl | exact ci (by omega) | exact ci (by simp) | exact cd (by simp) | simp), rfl, rfl, trivial⟩ ⟨rfl, rfl, trivial⟩) (fun i hok => ?_)
            have hi := hok
            refine a_rseq ?_
            refine rg_put (d := 70) (v := .d (.fl (.bool ((decide ((i : Int) < (((srtS (fk r r.length))).length : Int))))))) rfl (og rfl (op_bin rfl rfl rfl (b_lss _ _ _ _) rfl)) ?_
            refine rg_done rfl ?_
            refine a_seq ?_
            refine a_cond rfl (fun h14 => ?_) (fun h14 => ?_)
            · skip
              have h15 := t_dec h14
              refine a_skip ?_
              show A _ _ _ _ _ _ _
              refine a_seq ?_
              refine a_block ?_
              refine a_rseq ?_
              refine rg_put (d := 71) (v := .pe 102 1 i 0) rfl (og rfl (op_index_tr rfl Tryd.underlying32 ti9 rfl rfl rfl (get_lt (tD_at (by omega))) rfl)) ?_
              refine rg_put (d := 72) (v := .d (.fl (.string ((ix ((srtS (fk r r.length))) i))))) rfl (og rfl (of_eff (op_load_pe rfl Tryd.underlying9 rfl rfl rfl (tD_at (by omega)) rfl rfl) rfl)) ?_
              refine rg_put (d := 15) (v := .d (.fl (.string ((ix ((srtS (fk r r.length))) i))))) rfl (og rfl (op_assign rfl rfl rfl)) ?_
              refine rg_done rfl ?_
              refine a_rseq ?_
              refine rg_put (d := 16) (v := .d (.fl (.int .i64 0))) rfl (og rfl (op_assign rfl rfl rfl)) ?_
              refine rg_done rfl ?_
              refine a_seq ?_
              refine a_rseq ?_
              refine rg_put (d := 73) (v := .ow 102) rfl (og rfl (op_move rfl rfl rfl)) ?_
              refine rg_put (d := 74) (v := .d (.fl (.int .i64 ((((srtS (fk r r.length))).length : Int))))) rfl (og rfl (op_len_tr rfl Tryd.underlying32 rfl rfl tD_len rfl)) ?_
              refine rg_put (d := 75) (v := .d (.fl (.int .i64 0))) rfl (og rfl (op_move rfl rfl rfl)) ?_
              refine rg_done rfl ?_
              refine a_block ?_
              refine a_loop (ι := Nat) (fun j => SS [(0, .d (.sl 1 (List.map rS r))), (1, .d (.sl 1 (List.map (rI .i64) w))), (4, .d (.fl (.string (⟨#[]⟩)))), (5, .d (.fl (.int .i64 0))), (6, .d (.mp (entR r w r.length))), (9, .ow 102), (11, .d (.mp CMD)), (12, .d (.fl (.string ((pb (fc r w) (srtS (fk r r.length)) i).1)))), (13, .d (.fl (.int .i64 ((pb (fc r w) (srtS (fk r r.length)) i).2)))), (15, .d (.fl (.string ((ix ((srtS (fk r r.length))) i))))), (28, .d (.fl (.bool (((r.length : Int) != (w.length : Int)))))), (30, .d (.sl 1 (List.map rS r))), (31, .d (.fl (.int .i64 (r.length : Int)))), (32, .d (.fl (.int .i64 (k : Int)))), (33, .d (.fl (.bool ((decide ((k : Int) < (r.length : Int))))))), (49, .ow 103), (51, .d (.fl (.bool false))), (62, .d (.fl (.bool (((((srtS (fk r r.length))).length : Int) == 1))))), (67, .ow 102), (68, .d (.fl (.int .i64 ((((srtS (fk r r.length))).length : Int))))), (69, .d (.fl (.int .i64 (i : Int)))), (70, .d (.fl (.bool ((decide ((i : Int) < (((srtS (fk r r.length))).length : Int))))))), (73, .ow 102), (74, .d (.fl (.int .i64 ((((srtS (fk r r.length))).length : Int))))), (75, .d (.fl (.int .i64 (j : Int)))), (16, .d (.fl (.int .i64 ((sj r w (srtS (fk r r.length)) (ix (srtS (fk r r.length)) i) j)))))] [(103, .mi (List.map (fE r w r.length) pr.1) pr.2.1), (102, .tr 9 1 (tD rS ((srtS (fk r r.length)))))]) (fun j => j ≤ (srtS (fk r r.length)).length) (fun j => (srtS (fk r r.length)).length - j) 0 (by omega) (imp_forget rfl ⟨rfl, rfl, rfl, rfl, rfl, rfl, rfl, rfl, rfl, rfl, rfl, rfl, rfl, rfl, rfl, rfl, rfl, rfl, rfl, rfl, rfl, rfl, rfl, rfl, (by first | rfl | exact ci (by omega) | exact ci (by simp) | exact cd (by simp) | simp), rfl, trivial⟩ ⟨rfl, rfl, trivial⟩) (fun j hok => ?_)
              have hj := hok
              have hsj := sj_in r w (srtS (fk r r.length)) (ix (srtS (fk r r.length)) i) hr j
              refine a_rseq ?_
              refine rg_put (d := 76) (v := .d (.fl (.bool ((decide ((j : Int) < (((srtS (fk r r.length))).length : Int))))))) rfl (og rfl (op_bin rfl rfl rfl (b_lss _ _ _ _) rfl)) ?_
              refine rg_done rfl ?_
              refine a_seq ?_
              refine a_cond rfl (fun h16 => ?_) (fun h16 => ?_)
              · skip
                have h17 := t_dec h16
                refine a_skip ?_
                show A _ _ _ _ _ _ _
                refine a_seq ?_
                refine a_block ?_
                refine a_rseq ?_
                refine rg_put (d := 77) (v := .pe 102 1 j 0) rfl (og rfl (op_index_tr rfl Tryd.underlying32 ti9 rfl rfl rfl (get_lt (tD_at (by omega))) rfl)) ?_
                refine rg_put (d := 78) (v := .d (.fl (.string ((ix ((srtS (fk r r.length))) j))))) rfl (og rfl (of_eff (op_load_pe rfl Tryd.underlying9 rfl rfl rfl (tD_at (by omega)) rfl rfl) rfl)) ?_
                refine rg_put (d := 18) (v := .d (.fl (.string ((ix ((srtS (fk r r.length))) j))))) rfl (og rfl (op_assign rfl rfl rfl)) ?_
                refine rg_done rfl ?_
                refine a_draw (by kernel_rfl) ?_
                have hsw := sw_in r w (ix (srtS (fk r r.length)) j) r.length
                have hmu := mul_in (m := 20000) (by omega : 0 ≤ sw r w (ix (srtS (fk r r.length)) j) r.length ∧ sw r w (ix (srtS (fk r r.length)) j) r.length ≤ 20000) (dst_nn (ix (srtS (fk r r.length)) j) (ix (srtS (fk r r.length)) i))
                refine dr_put (d := 79) (v := .d (.fl (.int .i64 ((sj r w (srtS (fk r r.length)) (ix (srtS (fk r r.length)) i) j))))) rfl (og rfl (op_move rfl rfl rfl)) ?_
                refine dr_put (d := 80) (v := .d (.mp (entR r w r.length))) rfl (og rfl (op_move rfl rfl rfl)) ?_
                refine dr_put (d := 81) (v := .d (.fl (.string ((ix ((srtS (fk r r.length))) j))))) rfl (og rfl (op_move rfl rfl rfl)) ?_
                refine dr_put (d := 82) (v := .d (.fl (.int .i64 ((sw r w ((ix ((srtS (fk r r.length))) j)) r.length))))) rfl (og rfl (op_lookup1 rfl Tryd.underlying48 Tryd.underlying9 rfl ti3 rfl rfl (.d _) rfl (r := (some (.fl (.int .i64 ((sw r w ((ix ((srtS (fk r r.length))) j)) r.length)))))) ((mfindW _ _ _ _).trans (by rw [show (fk r r.length).any (fun y => sEq y ((ix ((srtS (fk r r.length))) j))) = true from List.any_eq_true.2 ⟨(ix ((srtS (fk r r.length))) j), hsub _ (ix_mem (by omega)), by simp [sEq]⟩]; rfl)) rfl rfl)) ?_
                refine dr_put (d := 83) (v := .d (.mp CMD)) rfl (og rfl (op_move rfl rfl rfl)) ?_
                refine dr_put (d := 84) (v := .d (.fl (.string ((ix ((srtS (fk r r.length))) j))))) rfl (og rfl (op_move rfl rfl rfl)) ?_
                refine dr_put (d := 85) (v := .d (.fl (.string ((ix ((srtS (fk r r.length))) i))))) rfl (og rfl (op_move rfl rfl rfl)) ?_
                refine dr_put (d := 86) (v := .d (.fl (.int .i64 ((dst ((ix ((srtS (fk r r.length))) j)) ((ix ((srtS (fk r r.length))) i))))))) rfl (og rfl (op_call rfl Tryd.func32 nm32 rfl (.cons rfl (.d _) (.cons rfl (.d _) (.cons rfl (.d _) .nil))) (dsP ((ix ((srtS (fk r r.length))) j)) ((ix ((srtS (fk r r.length))) i)) (hus _ (ix_mem (by omega))) (hus _ (ix_mem (by omega)))) rfl)) ?_
                refine dr_put (d := 87) (v := .d (.fl (.int .i64 (((sw r w ((ix ((srtS (fk r r.length))) j)) r.length) * (dst ((ix ((srtS (fk r r.length))) j)) ((ix ((srtS (fk r r.length))) i)))))))) rfl (og rfl (op_bin rfl rfl rfl (fun x y w => b_mul64 _ _ _ x y w (by omega)) rfl)) ?_
                refine dr_put (d := 88) (v := .d (.fl (.int .i64 (((sj r w (srtS (fk r r.length)) (ix (srtS (fk r r.length)) i) j) + ((sw r w ((ix ((srtS (fk r r.length))) j)) r.length) * (dst ((ix ((srtS (fk r r.length))) j)) ((ix ((srtS (fk r r.length))) i))))))))) rfl (og rfl (op_bin rfl rfl rfl (fun x y w => b_add64 _ _ _ x y w (by omega)) rfl)) ?_
                refine dr_put (d := 16) (v := .d (.fl (.int .i64 (((sj r w (srtS (fk r r.length)) (ix (srtS (fk r r.length)) i) j) + ((sw r w ((ix ((srtS (fk r r.length))) j)) r.length) * (dst ((ix ((srtS (fk r r.length))) j)) ((ix ((srtS (fk r r.length))) i))))))))) rfl (og rfl (op_assign rfl rfl rfl)) ?_
                refine dr_done rfl (by kernel_rfl) (by kernel_rfl) ?_
                show A _ _ _ _ _ _ _
                refine a_region ?_
                refine rg_put (d := 89) (v := .d (.fl (.int .i64 (((j : Int) + 1))))) rfl (og rfl (op_bin rfl rfl rfl (fun x y w => b_add64 _ _ _ x y w (by omega)) rfl)) ?_
                refine rg_put (d := 75) (v := .d (.fl (.int .i64 (((j : Int) + 1))))) rfl (og rfl (op_move rfl rfl rfl)) ?_
                refine rg_done rfl ?_
                show ∃ i, _ ∧ _ ∧ Imp _ _ _ _ _
                refine ⟨j + 1, (by omega), by omega, imp_forget rfl ⟨rfl, rfl, rfl, rfl, rfl, rfl, rfl, rfl, rfl, rfl, rfl, rfl, rfl, rfl, rfl, rfl, rfl, rfl, rfl, rfl, rfl, rfl, rfl, rfl, (by first | rfl | exact ci (by omega)), rfl, trivial⟩ ⟨rfl, rfl, trivial⟩⟩
              · skip
                have h18 := f_dec h16
                refine a_exit ?_
                show A _ _ _ _ _ _ _
                refine a_rseq ?_
                refine rg_put (d := 90) (v := .d (.fl (.int .i64 ((pb (fc r w) (srtS (fk r r.length)) i).2)))) rfl (og rfl (op_move rfl rfl rfl)) ?_
                refine rg_put (d := 91) (v := .d (.fl (.bool ((decide ((pb (fc r w) (srtS (fk r r.length)) i).2 < 0)))))) rfl (og rfl (op_bin rfl rfl rfl (b_lss _ _ _ _) rfl)) ?_
                refine rg_put (d := 92) (v := .d (.fl (.bool ((decide ((pb (fc r w) (srtS (fk r r.length)) i).2 < 0)))))) rfl (og rfl (op_move rfl rfl rfl)) ?_
                rcases fot ((decide ((pb (fc r w) (srtS (fk r r.length)) i).2 < 0))) with h19 | h19
                · skip
                  have h20 := f_dec h19
                  refine rg_put (d := 93) (v := .d (.fl (.int .i64 ((sj r w (srtS (fk r r.length)) (ix (srtS (fk r r.length)) i) j))))) rfl (oy rfl rfl rfl h19 (op_move rfl rfl rfl)) ?_
                  refine rg_put (d := 94) (v := .d (.fl (.int .i64 ((pb (fc r w) (srtS (fk r r.length)) i).2)))) rfl (oy rfl rfl rfl h19 (op_move rfl rfl rfl)) ?_
                  refine rg_put (d := 95) (v := .d (.fl (.bool ((decide ((sj r w (srtS (fk r r.length)) (ix (srtS (fk r r.length)) i) j) < (pb (fc r w) (srtS (fk r r.length)) i).2)))))) rfl (oy rfl rfl rfl h19 (op_bin rfl rfl rfl (b_lss _ _ _ _) rfl)) ?_
                  refine rg_put (d := 96) (v := .d (.fl (.bool ((decide ((sj r w (srtS (fk r r.length)) (ix (srtS (fk r r.length)) i) j) < (pb (fc r w) (srtS (fk r r.length)) i).2)))))) rfl (og rfl (op_pick rfl rfl (by rw [h19]; rfl) rfl)) ?_
                  refine rg_done rfl ?_
                  refine a_cond rfl (fun h21 => ?_) (fun h21 => ?_)
                  · skip
                    have h22 := t_dec h21
                    refine a_region ?_
                    refine rg_put (d := 97) (v := .d (.fl (.string ((ix ((srtS (fk r r.length))) i))))) rfl (og rfl (op_move rfl rfl rfl)) ?_
                    refine rg_put (d := 98) (v := .d (.fl (.int .i64 ((sj r w (srtS (fk r r.length)) (ix (srtS (fk r r.length)) i) j))))) rfl (og rfl (op_move rfl rfl rfl)) ?_
                    refine rg_put (d := 12) (v := .d (.fl (.string ((ix ((srtS (fk r r.length))) i))))) rfl (og rfl (op_assign rfl rfl rfl)) ?_
                    refine rg_put (d := 13) (v := .d (.fl (.int .i64 ((sj r w (srtS (fk r r.length)) (ix (srtS (fk r r.length)) i) j))))) rfl (og rfl (op_assign rfl rfl rfl)) ?_
                    refine rg_done rfl ?_
                    show A _ _ _ _ _ _ _
                    refine a_region ?_
                    refine rg_put (d := 99) (v := .d (.fl (.int .i64 (((i : Int) + 1))))) rfl (og rfl (op_bin rfl rfl rfl (fun x y w => b_add64 _ _ _ x y w (by omega)) rfl)) ?_
                    refine rg_put (d := 69) (v := .d (.fl (.int .i64 (((i : Int) + 1))))) rfl (og rfl (op_move rfl rfl rfl)) ?_
                    refine rg_done rfl ?_
                    have hsf : sj r w (srtS (fk r r.length)) (ix (srtS (fk r r.length)) i) j = fc r w (ix (srtS (fk r r.length)) i) := by rw [show j = (srtS (fk r r.length)).length from by omega]; exact sj_fc r w _
                    have hst : pb (fc r w) (srtS (fk r r.length)) (i + 1) = (ix (srtS (fk r r.length)) i, fc r w (ix (srtS (fk r r.length)) i)) := pb_y (by omega)
                    show ∃ i, _ ∧ _ ∧ Imp _ _ _ _ _
                    refine ⟨i + 1, (by omega), by omega, imp_forget rfl ⟨rfl, rfl, rfl, rfl, rfl, rfl, rfl, rfl, rfl, rfl, rfl, rfl, rfl, rfl, rfl, rfl, rfl, (by first | rfl | exact ci (by omega)), (cd (by rw [hst])), (cd (by rw [hst, ← hsf])), trivial⟩ ⟨rfl, rfl, trivial⟩⟩
                  · skip
                    have h23 := f_dec h21
                    refine a_skip ?_
                    show A _ _ _ _ _ _ _
                    refine a_region ?_
                    refine rg_put (d := 99) (v := .d (.fl (.int .i64 (((i : Int) + 1))))) rfl (og rfl (op_bin rfl rfl rfl (fun x y w => b_add64 _ _ _ x y w (by omega)) rfl)) ?_
                    refine rg_put (d := 69) (v := .d (.fl (.int .i64 (((i : Int) + 1))))) rfl (og rfl (op_move rfl rfl rfl)) ?_
                    refine rg_done rfl ?_
                    have hsf : sj r w (srtS (fk r r.length)) (ix (srtS (fk r r.length)) i) j = fc r w (ix (srtS (fk r r.length)) i) := by rw [show j = (srtS (fk r r.length)).length from by omega]; exact sj_fc r w _
                    have hst : pb (fc r w) (srtS (fk r r.length)) (i + 1) = (pb (fc r w) (srtS (fk r r.length)) i) := pb_n ⟨by omega, by omega⟩
                    show ∃ i, _ ∧ _ ∧ Imp _ _ _ _ _
                    refine ⟨i + 1, (by omega), by omega, imp_forget rfl ⟨rfl, rfl, rfl, rfl, rfl, rfl, rfl, rfl, rfl, rfl, rfl, rfl, rfl, rfl, rfl, rfl, rfl, (by first | rfl | exact ci (by omega)), (cd (by rw [hst])), (cd (by rw [hst])), trivial⟩ ⟨rfl, rfl, trivial⟩⟩
                · skip
                  have h24 := t_dec h19
                  refine rg_put (d := 93) (v := .d (.fl undef)) rfl (on rfl rfl rfl h19) ?_
                  refine rg_put (d := 94) (v := .d (.fl undef)) rfl (on rfl rfl rfl h19) ?_
                  refine rg_put (d := 95) (v := .d (.fl undef)) rfl (on rfl rfl rfl h19) ?_
                  refine rg_put (d := 96) (v := .d (.fl (.bool true))) rfl (og rfl (op_pick rfl rfl (by rw [h19]; rfl) rfl)) ?_
                  refine rg_done rfl ?_
                  refine a_condK rfl rfl ?_
                  refine a_region ?_
                  refine rg_put (d := 97) (v := .d (.fl (.string ((ix ((srtS (fk r r.length))) i))))) rfl (og rfl (op_move rfl rfl rfl)) ?_
                  refine rg_put (d := 98) (v := .d (.fl (.int .i64 ((sj r w (srtS (fk r r.length)) (ix (srtS (fk r r.length)) i) j))))) rfl (og rfl (op_move rfl rfl rfl)) ?_
                  refine rg_put (d := 12) (v := .d (.fl (.string ((ix ((srtS (fk r r.length))) i))))) rfl (og rfl (op_assign rfl rfl rfl)) ?_
                  refine rg_put (d := 13) (v := .d (.fl (.int .i64 ((sj r w (srtS (fk r r.length)) (ix (srtS (fk r r.length)) i) j))))) rfl (og rfl (op_assign rfl rfl rfl)) ?_
                  refine rg_done rfl ?_
                  show A _ _ _ _ _ _ _
                  refine a_region ?_
                  refine rg_put (d := 99) (v := .d (.fl (.int .i64 (((i : Int) + 1))))) rfl (og rfl (op_bin rfl rfl rfl (fun x y w => b_add64 _ _ _ x y w (by omega)) rfl)) ?_
                  refine rg_put (d := 69) (v := .d (.fl (.int .i64 (((i : Int) + 1))))) rfl (og rfl (op_move rfl rfl rfl)) ?_
                  refine rg_done rfl ?_
                  have hsf : sj r w (srtS (fk r r.length)) (ix (srtS (fk r r.length)) i) j = fc r w (ix (srtS (fk r r.length)) i) := by rw [show j = (srtS (fk r r.length)).length from by omega]; exact sj_fc r w _
                  have hst : pb (fc r w) (srtS (fk r r.length)) (i + 1) = (ix (srtS (fk r r.length)) i, fc r w (ix (srtS (fk r r.length)) i)) := pb_y (by omega)
                  show ∃ i, _ ∧ _ ∧ Imp _ _ _ _ _
                  refine ⟨i + 1, (by omega), by omega, imp_forget rfl ⟨rfl, rfl, rfl, rfl, rfl, rfl, rfl, rfl, rfl, rfl, rfl, rfl, rfl, rfl, rfl, rfl, rfl, (by first | rfl | exact ci (by omega)), (cd (by rw [hst])), (cd (by rw [hst, ← hsf])), trivial⟩ ⟨rfl, rfl, trivial⟩⟩
            · skip
              have h25 := f_dec h14
              refine a_exit ?_
              show A _ _ _ _ _ _ _
              refine a_rseq ?_
              refine rg_put (d := 100) (v := .d (.fl (.string ((pb (fc r w) (srtS (fk r r.length)) i).1)))) rfl (og rfl (op_move rfl rfl rfl)) ?_
              refine rg_put (d := 101) (v := .d (.fl (.int .i64 ((pb (fc r w) (srtS (fk r r.length)) i).2)))) rfl (og rfl (op_move rfl rfl rfl)) ?_
              refine rg_put (d := 4) (v := .d (.fl (.string ((pb (fc r w) (srtS (fk r r.length)) i).1)))) rfl (og rfl (op_assign rfl rfl rfl)) ?_
              refine rg_put (d := 5) (v := .d (.fl (.int .i64 ((pb (fc r w) (srtS (fk r r.length)) i).2)))) rfl (og rfl (op_assign rfl rfl rfl)) ?_
              refine rg_done rfl ?_
              refine a_ret ?_
              show ∃ ds, ResL _ _ _ ds ∧ RV.of ds = _
              refine ⟨[.fl (.string ((pb (fc r w) (srtS (fk r r.length)) i).1)), .fl (.int .i64 ((pb (fc r w) (srtS (fk r r.length)) i).2))], (.cons (.tmp rfl (.d _)) (.cons (.tmp rfl (.d _)) .nil)), ?_⟩
              rw [show vt r w = (pb (fc r w) (srtS (fk r r.length)) i) from (by rw [show i = (srtS (fk r r.length)).length from by omega]; exact (vt_bst (by omega) (by omega)).eq (pb_bst (by omega)))]; rfl
        · skip
          refine rg_put (d := 51) (v := .d (.fl (.bool true))) rfl (og rfl (op_extract rfl rfl rfl rfl)) ?_
          refine rg_done rfl ?_
          refine a_seq ?_
          refine a_condK rfl rfl ?_
          refine a_skip ?_
          show A _ _ _ _ _ _ _
          refine a_block ?_
          refine a_rseq ?_
          refine rg_put (d := 52) (v := .tu [.fl (.string (ix pr.1 jh10)), .fl (.int .i64 ((sw r w (ix pr.1 jh10) r.length)))]) rfl (og rfl (of_eff (op_entry (v := ((fE r w r.length) (ix pr.1 jh10))) rfl rfl rfl rfl) rfl)) ?_
          refine rg_put (d := 53) (v := .d (.fl (.string (ix pr.1 jh10)))) rfl (og rfl (op_extract rfl rfl rfl rfl)) ?_
          refine rg_put (d := 10) (v := .d (.fl (.string (ix pr.1 jh10)))) rfl (og rfl (op_assign rfl rfl rfl)) ?_
          refine rg_done rfl ?_
          refine a_region ?_
          refine rg_put (d := 54) (v := .ow 102) rfl (og rfl (op_move rfl rfl rfl)) ?_
          refine rg_put (d := 55) (v := .d (.fl (.string (ix pr.1 jh10)))) rfl (og rfl (op_move rfl rfl rfl)) ?_
          refine rg_put (d := 56) (v := .d (.sl 1 (List.map rS [(ix pr.1 jh10)]))) rfl (og rfl (of_eff (op_slices rfl Tryd.underlying32 ti9 rfl rfl rfl (by kernel_rfl) (xs := [.fl (.string (ix pr.1 jh10))]) rfl rfl (.cons rfl rfl (.d _) rfl rfl rfl .nil) rfl) rfl)) ?_
          refine rg_nam (d := 57) (v := .ow 104) (m := 104) (nw := [(104, .tr 9 1 (tD rS ((pr.2.2 ++ [(ix pr.1 jh10)])))), (102, .no)]) rfl (og rfl (of_eff (s_append_td 104 rfl Tryd.underlying32 ti9 rfl rfl rfl rfl rfl (.d _) (by simp only [List.length_append, List.length_cons, List.length_nil]; omega) rfl) rfl)) rfl ?_
          refine rg_put (d := 9) (v := .ow 104) rfl (og rfl (op_assign rfl rfl rfl)) ?_
          refine rg_done rfl ?_
          have hjj := h10
          have hnp : ((pr.2.2 ++ [ix pr.1 jh10]) ++ pr.1.eraseIdx jh10).Perm (fk r r.length) := (er_perm hjj).trans hp0
          show ∃ i, _ ∧ _ ∧ Imp _ _ _ _ _
          refine ⟨(pr.1.eraseIdx jh10, some (fE r w r.length (ix pr.1 jh10)), pr.2.2 ++ [ix pr.1 jh10]), hnp, (er_len hjj), imp_ren (fun m => bif Nat.beq m 102 then 104 else m) rfl ⟨rfl, rfl, rfl, rfl, rfl, rfl, rfl, rfl, rfl, rfl, rfl, rfl, trivial⟩ ⟨rfl, rfl, trivial⟩⟩
  · skip
    have h26 := t_beq h1
    refine rg_put (d := 23) (v := .d (.fl undef)) rfl (on rfl rfl rfl h1) ?_
    refine rg_put (d := 24) (v := .d (.fl undef)) rfl (on rfl rfl rfl h1) ?_
    refine rg_put (d := 25) (v := .d (.fl undef)) rfl (on rfl rfl rfl h1) ?_
    refine rg_put (d := 26) (v := .d (.fl undef)) rfl (on rfl rfl rfl h1) ?_
    refine rg_put (d := 27) (v := .d (.fl undef)) rfl (on rfl rfl rfl h1) ?_
    refine rg_put (d := 28) (v := .d (.fl (.bool true))) rfl (og rfl (op_pick rfl rfl (by rw [h1]; rfl) rfl)) ?_
    refine rg_done rfl ?_
    refine a_condK rfl rfl ?_
    refine a_rseq ?_
    refine rg_put (d := 4) (v := .d (.fl (.string (⟨#[]⟩)))) rfl (og rfl (op_assign rfl rfl rfl)) ?_
    refine rg_put (d := 5) (v := .d (.fl (.int .i64 0))) rfl (og rfl (op_assign rfl rfl rfl)) ?_
    refine rg_done rfl ?_
    refine a_ret ?_
    show ∃ ds, ResL _ _ _ ds ∧ RV.of ds = _
    refine ⟨[.fl (.string (⟨#[]⟩)), .fl (.int .i64 0)], (.cons (.tmp rfl (.d _)) (.cons (.tmp rfl (.d _)) .nil)), ?_⟩
    rw [show vt r w = (⟨#[]⟩, 0) from if_pos (by omega)]; rfl
end Go.Proofs.YtldglchpaookiaaDoor.Wk
