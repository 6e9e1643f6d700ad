/- Counts of charges by account. No condition. -/
import Derived.Test.YtaapmifdglaehaaDoorTy2
set_option linter.unusedSimpArgs false
set_option linter.unusedVariables false
namespace Go.Proofs.YtaapmifdglaehaaDoor.Wk
open Go Go.RowKit Go.Proofs.YtaapmifdglaehaaDoor.Av
theorem ix_eq {α : Type} [Inhabited α] {l : List α} {i : Nat} (h : i < l.length) : l[i] = ix l i := by
  have := ix_get h
  rw [List.getElem?_eq_getElem h] at this
  injection this
theorem ix_mem {α : Type} [Inhabited α] {l : List α} {k : Nat} (h : k < l.length) : ix l k ∈ l := by rw [← ix_eq h]; exact List.getElem_mem h
theorem mem_ix {α : Type} [Inhabited α] {l : List α} {x : α} (h : x ∈ l) : ∃ k, k < l.length ∧ ix l k = x := by
  obtain ⟨j, hj, he⟩ := List.mem_iff_getElem.1 h
  exact ⟨j, hj, by rw [← ix_eq hj]; exact he⟩
theorem fnd_no {α : Type} [Inhabited α] {p : α → Bool} {l : List α} (h : ∀ q, q < l.length → p (ix l q) = false) : l.find? p = none := by
  rw [List.find?_eq_none]
  intro x hx
  obtain ⟨k, hk, he⟩ := mem_ix hx
  rw [← he, h k hk]; simp
theorem fnd_at {α : Type} [Inhabited α] {p : α → Bool} {l : List α} {k : Nat} (hk : k < l.length) (h : ∀ q, q < k → p (ix l q) = false) (hp : p (ix l k) = true) : l.find? p = some (ix l k) := by
  rw [List.find?_eq_some_iff_getElem]
  refine ⟨hp, k, hk, ix_eq hk, fun j hj => ?_⟩
  rw [ix_eq (by omega), h j hj]; rfl
theorem any_at {α : Type} [Inhabited α] {p : α → Bool} {l : List α} {k : Nat} (hk : k < l.length) (hp : p (ix l k) = true) : l.any p = true := by
  rw [List.any_eq_true]; exact ⟨_, ix_mem hk, hp⟩
theorem any_no {α : Type} [Inhabited α] {p : α → Bool} {l : List α} (h : ∀ q, q < l.length → p (ix l q) = false) : l.any p = false := by
  rw [List.any_eq_false]
  intro x hx
  obtain ⟨k, hk, he⟩ := mem_ix hx
  rw [← he, h k hk]; simp
theorem all_no {α : Type} [Inhabited α] {p : α → Bool} {l : List α} {k : Nat} (hk : k < l.length) (h : p (ix l k) = false) : l.all p = false := by
  rw [List.all_eq_false]; exact ⟨_, ix_mem hk, by rw [h]; simp⟩
theorem all_yes {α : Type} [Inhabited α] {p : α → Bool} {l : List α} (h : ∀ q, q < l.length → p (ix l q) = true) : l.all p = true := by
  rw [List.all_eq_true]
  intro x hx
  obtain ⟨k, hk, he⟩ := mem_ix hx
  rw [← he]; exact h k hk

def idx {α : Type} (p : α → Bool) (l : List α) : Int := match l.findIdx? p with
  | some i => (i : Int)
  | none => -1
theorem idx_at {α : Type} [Inhabited α] {p : α → Bool} {l : List α} {k : Nat} (hk : k < l.length) (h : ∀ q, q < k → p (ix l q) = false) (hp : p (ix l k) = true) : idx p l = (k : Int) := by
  have : l.findIdx? p = some k := by
    rw [List.findIdx?_eq_some_iff_getElem]
    refine ⟨hk, by rw [ix_eq hk]; exact hp, fun j hj => ?_⟩
    rw [ix_eq (by omega), h j hj]; simp
  unfold idx; rw [this]
theorem idx_no {α : Type} [Inhabited α] {p : α → Bool} {l : List α} (h : ∀ q, q < l.length → p (ix l q) = false) : idx p l = -1 := by
  have : l.findIdx? p = none := by
    rw [List.findIdx?_eq_none_iff]
    intro x hx
    obtain ⟨j, hj, he⟩ := List.mem_iff_getElem.1 hx
    rw [ix_eq hj] at he
    rw [← he]; exact h j hj
  unfold idx; rw [this]

theorem idx_any {α : Type} [Inhabited α] (p : α → Bool) (l : List α) : decide (0 ≤ idx p l) = l.any p := by
  unfold idx
  cases h : l.findIdx? p with
  | none =>
    rw [List.findIdx?_eq_none_iff] at h
    symm
    show l.any p = false
    rw [List.any_eq_false]
    intro x hx; rw [h x hx]; simp
  | some i =>
    rw [List.findIdx?_eq_some_iff_getElem] at h
    obtain ⟨h1, h2, _⟩ := h
    have e : l.any p = true := List.any_eq_true.2 ⟨_, List.getElem_mem h1, h2⟩
    rw [e]
    exact decide_eq_true (by show (0 : Int) ≤ (i : Int); omega)
theorem idx_in {α : Type} (p : α → Bool) (l : List α) : -1 ≤ idx p l ∧ idx p l < (l.length : Int) := by
  unfold idx
  cases h : l.findIdx? p with
  | none => show (-1 : Int) ≤ -1 ∧ (-1 : Int) < _; omega
  | some i =>
    rw [List.findIdx?_eq_some_iff_getElem] at h
    obtain ⟨h1, _⟩ := h
    show (-1 : Int) ≤ (i : Int) ∧ (i : Int) < _; omega

def vI (i : Iv) : Bool := (decide (0 ≤ i.fr) && decide (i.fr < i.to)) && decide (i.to ≤ 68719476736)
def hasI (i : Iv) (t : Int) : Bool := (vI i && decide (i.fr ≤ t)) && decide (t < i.to)
def hld (o : Ow) (v : ByteArray) (t : Int) : Bool := (!(sEq v ⟨#[]⟩) && (sEq o.tag v || sEq o.plate v)) && hasI o.time t
def ownL (l : List Ow) (v : ByteArray) (t : Int) : Bool := l.any fun o => hld o v t
def own (l : List Ac) (v : ByteArray) (t : Int) : ByteArray × Bool := match l.find? (fun a => ownL a.owned v t) with
  | some a => (a.name, true)
  | none => (⟨#[]⟩, false)
theorem own_at {l : List Ac} {v : ByteArray} {t : Int} {k : Nat} (hk : k < l.length) (h : ∀ q, q < k → ownL (ix l q).owned v t = false) (hp : ownL (ix l k).owned v t = true) : own l v t = ((ix l k).name, true) := by unfold own; rw [fnd_at hk h hp]
theorem own_no {l : List Ac} {v : ByteArray} {t : Int} (h : ∀ q, q < l.length → ownL (ix l q).owned v t = false) : own l v t = (⟨#[]⟩, false) := by unfold own; rw [fnd_no h]
def lrg (o : Ow) : Bool := decide (40 < (o.tag.size : Int)) || decide (40 < (o.plate.size : Int))
def bA (a : Ac) : Bool := (decide (40 < (a.name.size : Int)) || decide (8 < (a.owned.length : Int))) || a.owned.any lrg
def bC (c : Ca) : Bool := decide (40 < (c.name.size : Int)) || decide (40 < (c.sys.size : Int))
def bX (x : Chg) : Bool := ((decide (80 < (x.key.size : Int)) || decide (40 < (x.veh.size : Int))) || decide (40 < (x.sys.size : Int))) || decide (8 < (x.lines.length : Int))
def few (b : Bil) : Bool := ((!(b.acc.any bA) && !(b.caps.any bC)) && !(b.chs.any bX)) && ((decide ((b.acc.length : Int) ≤ 8) && decide ((b.caps.length : Int) ≤ 14)) && decide ((b.chs.length : Int) ≤ 30))
theorem few_t {b : Bil} (h : few b = true) : (b.acc.length ≤ 8 ∧ b.chs.length ≤ 30) ∧ (∀ q, q < b.acc.length → (ix b.acc q).owned.length ≤ 8) ∧ ∀ q, q < b.chs.length → (ix b.chs q).lines.length ≤ 8 := by
  simp only [few, Bool.and_eq_true, Bool.not_eq_true', List.any_eq_false, decide_eq_true_eq] at h
  refine ⟨by omega, fun q hq => ?_, fun q hq => ?_⟩
  · have := h.1.1.1 _ (ix_mem hq)
    simp only [bA, Bool.or_eq_true, decide_eq_true_eq, not_or] at this
    omega
  · have := h.1.2 _ (ix_mem hq)
    simp only [bX, Bool.or_eq_true, decide_eq_true_eq, not_or] at this
    omega
/-- the charges that an account owns -/
def o1 (l : List Ac) (x : Chg) : ByteArray := (own l x.veh x.time).1
def o2 (l : List Ac) (x : Chg) : Bool := (own l x.veh x.time).2
def isO (l : List Ac) (n : ByteArray) (x : Chg) : Bool := o2 l x && sEq (o1 l x) n
def ofl (l : List Ac) (n : ByteArray) (c : List Chg) : List Chg := c.filter (isO l n)
theorem ofl_y {l : List Ac} {n : ByteArray} {c : List Chg} {k : Nat} (h : k < c.length) (hb : isO l n (ix c k) = true) : ofl l n (c.take k) ++ [ix c k] = ofl l n (c.take (k + 1)) := by
  unfold ofl; rw [take_ix h, List.filter_append, List.filter_cons_of_pos hb]; rfl
theorem ofl_n {l : List Ac} {n : ByteArray} {c : List Chg} {k : Nat} (h : k < c.length) (hb : isO l n (ix c k) = false) : ofl l n (c.take k) = ofl l n (c.take (k + 1)) := by
  unfold ofl; rw [take_ix h, List.filter_append, List.filter_cons_of_neg (by rw [hb]; simp)]; simp
theorem ofl_len (l : List Ac) (n : ByteArray) (c : List Chg) : (ofl l n c).length ≤ c.length := List.length_filter_le _ _
theorem ofl_tk (l : List Ac) (n : ByteArray) (c : List Chg) (k : Nat) : (ofl l n (c.take k)).length ≤ c.length := Nat.le_trans (ofl_len _ _ _) (by simp; omega)
/-- how many of the first k -/
def ct (p : Nat → Bool) : Nat → Int
  | 0 => 0
  | k + 1 => bif p k then ct p k + 1 else ct p k
theorem ct_y {p : Nat → Bool} {k : Nat} (h : p k = true) : ct p k + 1 = ct p (k + 1) := by simp only [ct, h, cond_true]
theorem ct_n {p : Nat → Bool} {k : Nat} (h : p k = false) : ct p k = ct p (k + 1) := by simp only [ct, h, cond_false]
theorem ct_in (p : Nat → Bool) : ∀ k, 0 ≤ ct p k ∧ ct p k ≤ (k : Int)
  | 0 => by simp [ct]
  | k + 1 => by
    have := ct_in p k
    simp only [ct]
    cases p k <;> simp only [cond_true, cond_false] <;> omega
theorem ct_cong {p r : Nat → Bool} : ∀ k, (∀ q, q < k → p q = r q) → ct p k = ct r k
  | 0, _ => rfl
  | k + 1, h => by simp only [ct]; rw [h k (by omega), ct_cong k (fun q hq => h q (by omega))]
theorem ct_or {p r : Nat → Bool} : ∀ k, (∀ q, q < k → p q = true → r q = false) → ct (fun q => p q || r q) k = ct p k + ct r k
  | 0, _ => rfl
  | k + 1, h => by
    have ih := ct_or k (fun q hq => h q (by omega))
    have hd := h k (by omega)
    simp only [ct]
    rw [ih]
    cases hp : p k <;> cases hr : r k <;> simp only [Bool.or_true, Bool.or_false, Bool.true_or, cond_true, cond_false] <;> first | omega | (rw [hd hp] at hr; cases hr)
theorem ofl_ct (l : List Ac) (n : ByteArray) (c : List Chg) : ∀ k, k ≤ c.length → ((ofl l n (c.take k)).length : Int) = ct (fun q => isO l n (ix c q)) k
  | 0, _ => by simp [ofl, ct]
  | k + 1, hk => by
    have ih := ofl_ct l n c k (by omega)
    cases hb : isO l n (ix c k) with
    | true => rw [← ofl_y (by omega) hb, ← ct_y (p := fun q => isO l n (ix c q)) hb, ← ih]; simp
    | false => rw [← ofl_n (by omega) hb, ← ct_n (p := fun q => isO l n (ix c q)) hb, ih]
/-- one of the first i accounts has the name -/
def hsn (l : List Ac) (n : ByteArray) : Nat → Bool
  | 0 => false
  | i + 1 => hsn l n i || sEq (ix l i).name n
def al (l : List Ac) (c : List Chg) : Nat → Int
  | 0 => 0
  | i + 1 => bif hsn l (ix l i).name i then al l c i else al l c i + ((ofl l (ix l i).name c).length : Int)
theorem al_y {l : List Ac} {c : List Chg} {i : Nat} (h : hsn l (ix l i).name i = true) : al l c i = al l c (i + 1) := by simp only [al, h, cond_true]
theorem al_n {l : List Ac} {c : List Chg} {i : Nat} (h : hsn l (ix l i).name i = false) : al l c i + ((ofl l (ix l i).name c).length : Int) = al l c (i + 1) := by simp only [al, h, cond_false]
theorem al_in (l : List Ac) (c : List Chg) : ∀ i, 0 ≤ al l c i ∧ al l c i ≤ (i : Int) * (c.length : Int)
  | 0 => by simp [al]
  | i + 1 => by
    have h1 := al_in l c i
    have h2 := ofl_len l (ix l i).name c
    have h3 : ((i + 1 : Nat) : Int) * (c.length : Int) = (i : Int) * (c.length : Int) + (c.length : Int) := by rw [Int.natCast_add, Int.add_mul]; simp
    simp only [al]
    rw [h3]
    cases hsn l (ix l i).name i <;> simp only [cond_true, cond_false] <;> omega
theorem sEq_is {a b : ByteArray} (h : sEq a b = true) : a = b := of_decide_eq_true h
theorem sEq_rf (a : ByteArray) : sEq a a = true := decide_eq_true rfl
theorem al_ct (l : List Ac) (c : List Chg) : ∀ i, al l c i = ct (fun q => o2 l (ix c q) && hsn l (o1 l (ix c q)) i) c.length
  | 0 => by
    show (0 : Int) = _
    have : ct (fun q => o2 l (ix c q) && hsn l (o1 l (ix c q)) 0) c.length = ct (fun _ => false) c.length := ct_cong _ (fun q _ => by simp [hsn])
    rw [this]
    have : ∀ k, ct (fun _ => false) k = 0 := fun k => by
      induction k with
      | zero => rfl
      | succ k ih => simp only [ct, cond_false]; exact ih
    rw [this]
  | i + 1 => by
    have ih := al_ct l c i
    cases hb : hsn l (ix l i).name i with
    | true =>
      rw [← al_y hb, ih]
      refine ct_cong _ (fun q _ => ?_)
      simp only [hsn]
      cases hs : sEq (ix l i).name (o1 l (ix c q)) with
      | false => rw [Bool.or_false]
      | true => rw [← sEq_is hs, hb, Bool.true_or]
    | false =>
      have e := ofl_ct l (ix l i).name c c.length (by omega)
      rw [List.take_length] at e
      rw [← al_n hb, ih, e, ← ct_or]
      · refine ct_cong _ (fun q _ => ?_)
        simp only [hsn, isO]
        cases o2 l (ix c q) <;> simp only [Bool.false_and, Bool.true_and, Bool.or_false]
        congr 1
        rw [Bool.eq_iff_iff]
        exact ⟨fun h => by rw [← sEq_is h]; exact sEq_rf _, fun h => by rw [← sEq_is h]; exact sEq_rf _⟩
      · intro q _ hp
        simp only [Bool.and_eq_true] at hp
        cases hi : isO l (ix l i).name (ix c q) with
        | false => rfl
        | true =>
          simp only [isO, Bool.and_eq_true] at hi
          rw [sEq_is hi.2, hb] at hp
          cases hp.2
theorem hsn_at {l : List Ac} {n : ByteArray} {k : Nat} (h : sEq (ix l k).name n = true) : ∀ i, k < i → hsn l n i = true
  | 0, hk => by omega
  | i + 1, hk => by
    simp only [hsn]
    by_cases he : k = i
    · rw [← he, h, Bool.or_true]
    · rw [hsn_at h i (by omega), Bool.true_or]
theorem own_name {l : List Ac} {x : Chg} (h : o2 l x = true) : hsn l (o1 l x) l.length = true := by
  unfold o2 own at h
  unfold o1 own
  cases hf : l.find? (fun a => ownL a.owned x.veh x.time) with
  | none => rw [hf] at h; cases h
  | some a =>
    obtain ⟨i, hi, he⟩ := List.mem_iff_getElem.1 (List.mem_of_find?_eq_some hf)
    have h3 := ix_get hi
    rw [List.getElem?_eq_getElem hi, he] at h3
    injection h3 with h3
    refine hsn_at (k := i) ?_ _ hi
    rw [← h3]; exact sEq_rf _
theorem once (l : List Ac) (c : List Chg) : ct (fun q => o2 l (ix c q)) c.length = al l c l.length := by
  rw [al_ct]
  refine ct_cong _ (fun q _ => ?_)
  cases h : o2 l (ix c q) with
  | false => rfl
  | true => rw [own_name h]; rfl
theorem tD_same {α : Type} [Inhabited α] {e : α → List DV} {l : List α} {k : Nat} (h : k < l.length) {y : List OC} (hy : y = (e (ix l k)).map OC.dv) : (tD e l).set k y = tD e l := by
  subst hy
  unfold tD
  apply List.ext_getElem?
  intro j
  rw [List.getElem?_set]
  by_cases hj : k = j
  · subst hj
    simp only [if_true, List.length_map, h]
    rw [List.getElem?_map, List.getElem?_map, ix_get h]; rfl
  · simp only [hj, if_false]

end Go.Proofs.YtaapmifdglaehaaDoor.Wk
