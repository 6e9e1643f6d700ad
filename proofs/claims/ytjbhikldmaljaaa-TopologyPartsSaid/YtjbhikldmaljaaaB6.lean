/- Systems and points of a topology, the points in each. No condition. -/
import Derived.Test.YtjbhikldmaljaaaSs
import Derived.Test.YtjbhikldmaljaaaAvI
import Derived.Test.YtjbhikldmaljaaaB2
set_option linter.unusedSimpArgs false
set_option linter.unusedVariables false
namespace Go.Proofs.Ytjbhikldmaljaaa.Wk
open Go Go.RowKit Go.Proofs.Ytjbhikldmaljaaa.Av
noncomputable def vT (t : Tpg) : Tpg := if tck t = 0 then t else ⟨⟨[], []⟩, []⟩
noncomputable def vN (n : Nwk) : Nwk := if gck n = 0 then n else ⟨[], []⟩
theorem gck_e : gck ⟨[], []⟩ = 0 := by
  unfold gck ptE lkE; simp [fe]
theorem tck_gck {t : Tpg} (h : tck t = 0) : gck t.net = 0 := by
  by_cases hg : gck t.net = 0
  · exact hg
  · rw [tck_g (bne_iff_ne.2 hg)] at h; exact h
theorem tck_s0 {t : Tpg} (h : tck t = 0) : t.syss.length ≤ 64 ∧ syE t.syss = 0 ∧ peE t = 0 := by
  have hg := tck_gck h
  have h1 : (gck t.net != 0) = false := by rw [hg]; rfl
  cases h2 : decide (64 < (t.syss.length : Int)) with
  | true => rw [tck_l h1 h2] at h; cases h
  | false =>
    by_cases h3 : syE t.syss = 0
    · rw [tck_p h1 h2 h3] at h
      simp only [decide_eq_false_iff_not] at h2
      exact ⟨by omega, h3, h⟩
    · rw [tck_s h1 h2 rfl h3] at h; exact absurd h h3
theorem sy_parts {l : List Sys} {k : Nat} (h : sy1 l k = 0) : Nm.nmB (ix l k).name = true ∧ (sF (l.take k) (ix l k).name).isSome = false := by
  unfold sy1 at h
  cases h1 : Nm.nmB (ix l k).name with
  | false => rw [h1] at h; cases h
  | true =>
    cases h2 : (sF (l.take k) (ix l k).name).isSome with
    | true => rw [h1, h2] at h; cases h
    | false => exact ⟨rfl, rfl⟩
def pF (l : List Pnt) (s : ByteArray) : Option Pnt := l.find? fun x => sEq x.name s
def zP : Pnt := ⟨⟨#[]⟩, 0, ⟨#[]⟩⟩
def zS : Sys := ⟨⟨#[]⟩, false, 0⟩
theorem vT_gck (t : Tpg) : gck (vT t).net = 0 := by
  unfold vT
  split
  · rename_i h; exact tck_gck h
  · exact gck_e
theorem vT_tck (t : Tpg) (h : tck t = 0) : vT t = t := if_pos h
theorem tck_e : tck ⟨⟨[], []⟩, []⟩ = 0 := by
  rw [tck_p (by rw [show (⟨⟨[], []⟩, []⟩ : Tpg).net = ⟨[], []⟩ from rfl, gck_e]; rfl) rfl rfl]; rfl
theorem vT_ok (t : Tpg) : tck (vT t) = 0 := by
  unfold vT
  split
  · assumption
  · exact tck_e
def fN (l : List Pnt) (s : ByteArray) : Pnt × Bool := match pF l s with
  | some p => (p, true)
  | none => (zP, false)
def kd (l : List Pnt) (s : ByteArray) : Int := (fN l s).1.kind
def sy (l : List Pnt) (s : ByteArray) : ByteArray := (fN l s).1.sys
noncomputable def kn (t : Tpg) : List Pnt := (vT t).net.pts
noncomputable def sR (t : Tpg) (s : ByteArray) : Sys × Bool := match sF (vT t).syss (sy (kn t) s) with
  | some y => (y, true)
  | none => (zS, false)
theorem vT_len (t : Tpg) : (vT t).net.pts.length ≤ 64 := (gck_0 (vT_gck t)).1
theorem vT_sys (t : Tpg) : (vT t).syss.length ≤ 64 := (tck_s0 (vT_ok t)).1
def idx {α : Type} (p : α → Bool) (l : List α) : Int := match l.findIdx? p with
  | some i => (i : Int)
  | none => -1
theorem idx_at {α : Type} [Inhabited α] {p : α → Bool} {l : List α} {k : Nat} (hk : k < l.length) (h : ∀ q, q < k → p (ix l q) = false) (hp : p (ix l k) = true) : idx p l = (k : Int) := by
  have : l.findIdx? p = some k := by
    rw [List.findIdx?_eq_some_iff_getElem]
    refine ⟨hk, by rw [ix_eq hk]; exact hp, fun j hj => ?_⟩
    rw [ix_eq (by omega), h j hj]; simp
  unfold idx; rw [this]
theorem idx_no {α : Type} [Inhabited α] {p : α → Bool} {l : List α} (h : ∀ q, q < l.length → p (ix l q) = false) : idx p l = -1 := by
  have : l.findIdx? p = none := by
    rw [List.findIdx?_eq_none_iff]
    intro x hx
    obtain ⟨j, hj, he⟩ := List.mem_iff_getElem.1 hx
    rw [ix_eq hj] at he
    rw [← he]; exact h j hj
  unfold idx; rw [this]
theorem idx_cases {α : Type} [Inhabited α] (p : α → Bool) (l : List α) : (idx p l = -1 ∧ l.find? p = none) ∨ ∃ k : Nat, idx p l = (k : Int) ∧ k < l.length ∧ l.find? p = some (ix l k) := by
  cases h : l.findIdx? p with
  | none =>
    left
    rw [List.findIdx?_eq_none_iff] at h
    refine ⟨by unfold idx; rw [List.findIdx?_eq_none_iff.2 h], List.find?_eq_none.2 fun x hx => by rw [h x hx]; simp⟩
  | some k =>
    right
    have h0 := h
    rw [List.findIdx?_eq_some_iff_getElem] at h
    obtain ⟨hk, hp, hq⟩ := h
    refine ⟨k, by unfold idx; rw [h0], hk, ?_⟩
    rw [← ix_eq hk, List.find?_eq_some_iff_getElem]
    exact ⟨hp, k, hk, rfl, fun j hj => by simpa using hq j hj⟩
def nmI (l : List Pnt) (s : ByteArray) : Int := idx (fun x => sEq x.name s) l
def nmJ (l : List Sys) (s : ByteArray) : Int := idx (fun x => sEq x.name s) l
theorem fN_at {l : List Pnt} {s : ByteArray} (h : ¬ nmI l s < 0) : 0 ≤ nmI l s ∧ nmI l s < (l.length : Int) ∧ fN l s = (ix l (nmI l s).toNat, true) := by
  rcases idx_cases (fun x : Pnt => sEq x.name s) l with ⟨h1, _⟩ | ⟨k, h1, h2, h3⟩
  · unfold nmI at h; omega
  · have e : nmI l s = (k : Int) := h1
    rw [e]
    refine ⟨by omega, by omega, ?_⟩
    unfold fN pF
    rw [h3]; rfl
theorem fN_neg {l : List Pnt} {s : ByteArray} (h : nmI l s < 0) : fN l s = (zP, false) := by
  rcases idx_cases (fun x : Pnt => sEq x.name s) l with ⟨_, h2⟩ | ⟨k, h1, _⟩
  · unfold fN pF; rw [h2]
  · have e : nmI l s = (k : Int) := h1
    omega
def fS (l : List Sys) (s : ByteArray) : Sys × Bool := match sF l s with
  | some y => (y, true)
  | none => (zS, false)
theorem fS_at {l : List Sys} {s : ByteArray} (h : ¬ nmJ l s < 0) : 0 ≤ nmJ l s ∧ nmJ l s < (l.length : Int) ∧ fS l s = (ix l (nmJ l s).toNat, true) := by
  rcases idx_cases (fun x : Sys => sEq x.name s) l with ⟨h1, _⟩ | ⟨k, h1, h2, h3⟩
  · unfold nmJ at h; omega
  · have e : nmJ l s = (k : Int) := h1
    rw [e]
    refine ⟨by omega, by omega, ?_⟩
    unfold fS sF
    rw [h3]; rfl
theorem fS_neg {l : List Sys} {s : ByteArray} (h : nmJ l s < 0) : fS l s = (zS, false) := by
  rcases idx_cases (fun x : Sys => sEq x.name s) l with ⟨_, h2⟩ | ⟨k, h1, _⟩
  · unfold fS sF; rw [h2]
  · have e : nmJ l s = (k : Int) := h1
    omega
theorem flt_y {α : Type} [Inhabited α] {p : α → Bool} {l : List α} {k : Nat} (hk : k < l.length) (h : p (ix l k) = true) : (l.take k).filter p ++ [ix l k] = (l.take (k + 1)).filter p := by rw [take_ix hk, List.filter_append, List.filter_cons_of_pos h]; rfl
theorem flt_n {α : Type} [Inhabited α] {p : α → Bool} {l : List α} {k : Nat} (hk : k < l.length) (h : p (ix l k) = false) : (l.take k).filter p = (l.take (k + 1)).filter p := by rw [take_ix hk, List.filter_append, List.filter_cons_of_neg (by rw [h]; simp)]; simp
def pq (sys : ByteArray) (kind : Int) (p : Pnt) : Bool := sEq p.sys sys && (p.kind == kind)
def pn (l : List Pnt) (sys : ByteArray) (kind : Int) (k : Nat) : List ByteArray := ((l.take k).filter (pq sys kind)).map (·.name)
theorem pn_y {l : List Pnt} {sys : ByteArray} {kind : Int} {k : Nat} (hk : k < l.length) (h : pq sys kind (ix l k) = true) : pn l sys kind k ++ [(ix l k).name] = pn l sys kind (k + 1) := by unfold pn; rw [← flt_y hk h, List.map_append]; rfl
theorem pn_n {l : List Pnt} {sys : ByteArray} {kind : Int} {k : Nat} (hk : k < l.length) (h : pq sys kind (ix l k) = false) : pn l sys kind k = pn l sys kind (k + 1) := by unfold pn; rw [← flt_n hk h]
theorem pn_len (l : List Pnt) (sys : ByteArray) (kind : Int) (k : Nat) : (pn l sys kind k).length ≤ l.length := by
  unfold pn
  rw [List.length_map]
  refine Nat.le_trans (List.length_filter_le _ _) ?_
  rw [List.length_take]; omega
theorem kn_name {t : Tpg} {k : Nat} (hk : k < (kn t).length) : (ix (kn t) k).name.size ≤ 12 ∧ ∀ q, q < k → sEq (ix (kn t) q).name (ix (kn t) k).name = false := by
  have h := (gck_0 (vT_gck t)).2.2.1 k hk
  unfold pt1 at h
  cases h1 : Nm.nmB (ix (vT t).net.pts k).name with
  | false => rw [h1] at h; cases h
  | true =>
    rw [h1] at h
    cases h2 : dupP ((vT t).net.pts.take k) (ix (vT t).net.pts k).name with
    | true => rw [h2] at h; cases h
    | false =>
      refine ⟨?_, fun q hq => ?_⟩
      · unfold Nm.nmB at h1
        exact (@of_decide_eq_true _ (Classical.propDecidable _) h1).2.1
      · unfold dupP at h2
        rw [List.any_eq_false] at h2
        have hm : ix (kn t) q ∈ (vT t).net.pts.take k := by
          have hq2 : q < (vT t).net.pts.length := by unfold kn at hk; omega
          rw [List.mem_take_iff_getElem]
          exact ⟨q, by omega, ix_eq hq2⟩
        cases hb : sEq (ix (kn t) q).name (ix (kn t) k).name with
        | false => rfl
        | true => exact absurd hb (h2 _ hm)
theorem kn_len (t : Tpg) : (kn t).length ≤ 64 := vT_len t

def ic (a b : Int) : Int := bif decide (a < b) then -1 else bif decide (b < a) then 1 else 0
def sc (s u : ByteArray) : Int := bif sEq s u then 0 else bif sLt s u then -1 else 1
def fz : List Int → Int
  | [] => 0
  | x :: l => bif x != 0 then x else fz l
def Neg (x y : Int) : Prop := x = -y
def Tq (x y z : Int) : Prop := x ≤ 0 → y ≤ 0 → z ≤ 0 ∧ (z < 0 ↔ x < 0 ∨ y < 0)
inductive T3 : List Int → List Int → List Int → Prop
  | nil : T3 [] [] []
  | cons {x y z : Int} {l m n : List Int} (h : Tq x y z) (hs : T3 l m n) : T3 (x :: l) (y :: m) (z :: n)
def inD (u : List ByteArray) (s : ByteArray) : Nat → Bool
  | 0 => false
  | k + 1 => inD u s k || sLt s (ix u k)
def inO (u : List ByteArray) (s : ByteArray) : Nat → List ByteArray
  | 0 => []
  | k + 1 => (bif !(inD u s k) && sLt s (ix u k) then inO u s k ++ [s] else inO u s k) ++ [ix u k]
def insT (u : List ByteArray) (s : ByteArray) : List ByteArray := bif u.any (fun y => sEq y s) then u else bif inD u s u.length then inO u s u.length else inO u s u.length ++ [s]
theorem srtS_len (l : List ByteArray) : (srtS l).length = l.length := (srtS_perm l).length_eq
def adS (w : List ByteArray) (s : ByteArray) : List ByteArray := bif w.any (fun y => sEq y s) then w else w ++ [s]
def setV (l : List ByteArray) : List (Value × DV) := l.map fun s => (Value.string s, DV.fl (.bool true))
theorem kn_at {t : Tpg} (h : tck t = 0) : kn t = t.net.pts := by unfold kn; rw [vT_tck t h]
theorem nm_uq {t : Tpg} {i q : Nat} (hi : i < (kn t).length) (hq : q < (kn t).length) (h : sEq (ix (kn t) q).name (ix (kn t) i).name = true) : q = i := by
  rcases Nat.lt_trichotomy q i with g | g | g
  · have := (kn_name hi).2 q g
    rw [h] at this; cases this
  · exact g
  · have := (kn_name hq).2 i g
    have h2 : sEq (ix (kn t) i).name (ix (kn t) q).name = true := by rw [sEq_eq h]; simp [sEq]
    rw [h2] at this; cases this
def hasT (l : List ByteArray) (s : ByteArray) : Bool := l.any fun y => sEq y s
theorem hasT_y {l : List ByteArray} {s : ByteArray} {k : Nat} (hk : k < l.length) (h : sEq (ix l k) s = true) : hasT l s = true := List.any_eq_true.2 ⟨_, ix_mem hk, h⟩
theorem hasT_n {l : List ByteArray} {s : ByteArray} (h : ∀ q, q < l.length → sEq (ix l q) s = false) : hasT l s = false := List.any_eq_false.2 (fun x hx => by obtain ⟨k, hk, rfl⟩ := mem_ix hx; rw [h k hk]; simp)
theorem hasT_iff {l : List ByteArray} {s : ByteArray} : hasT l s = true ↔ s ∈ l := by
  unfold hasT
  rw [List.any_eq_true]
  constructor
  · rintro ⟨y, h1, h2⟩; rw [← sEq_eq h2]; exact h1
  · intro h; exact ⟨s, h, by simp [sEq]⟩
theorem has_pts {t : Tpg} {i : Nat} (hi : i < (kn t).length) (s : ByteArray) (c : Int) : hasT (srtS (pn (kn t) s c (kn t).length)) (ix (kn t) i).name = pq s c (ix (kn t) i) := by
  rw [Bool.eq_iff_iff, hasT_iff, (srtS_perm _).mem_iff]
  unfold pn
  rw [List.take_length, List.mem_map]
  constructor
  · rintro ⟨p, hp, hn⟩
    obtain ⟨h1, h2⟩ := List.mem_filter.1 hp
    obtain ⟨q, hq, rfl⟩ := mem_ix h1
    have := nm_uq hi hq (by rw [hn]; simp [sEq])
    subst this
    exact h2
  · intro h
    exact ⟨ix (kn t) i, List.mem_filter.2 ⟨ix_mem hi, h⟩, rfl⟩
def cn (p : Pnt) (y : ByteArray) : Nat → Int
  | 0 => 0
  | j + 1 => cn p y j + (bif pq y ((j : Int) + 1) p then 1 else 0)
theorem cn_in (p : Pnt) (y : ByteArray) : ∀ j, 0 ≤ cn p y j ∧ cn p y j ≤ (j : Int)
  | 0 => by simp [cn]
  | j + 1 => by
    have ih := cn_in p y j
    simp only [cn]
    cases pq y ((j : Int) + 1) p <;> simp only [cond_true, cond_false] <;> omega
theorem cn_no {p : Pnt} {y : ByteArray} (h : sEq p.sys y = false) : ∀ j, cn p y j = 0
  | 0 => rfl
  | j + 1 => by
    have ih := cn_no h j
    have e : pq y ((j : Int) + 1) p = false := by unfold pq; rw [h]; rfl
    simp only [cn, e, cond_false, ih]; rfl
theorem cn_4 {p : Pnt} {y : ByteArray} (h : p.kind = 4) : cn p y 3 = 0 := by
  have e : ∀ j : Nat, j < 3 → pq y ((j : Int) + 1) p = false := fun j hj => by
    unfold pq
    rw [show (p.kind == (j : Int) + 1) = false from by rw [h]; simp; omega, Bool.and_false]
  simp only [cn, e 0 (by omega), e 1 (by omega), e 2 (by omega), cond_false]; rfl
theorem cn_1 {p : Pnt} {y : ByteArray} (h : 1 ≤ p.kind ∧ p.kind ≤ 3) (hs : sEq p.sys y = true) : cn p y 3 = 1 := by
  have e : ∀ j : Nat, pq y ((j : Int) + 1) p = (p.kind == (j : Int) + 1) := fun j => by unfold pq; rw [hs, Bool.true_and]
  obtain ⟨h1, h2⟩ := h
  simp only [cn, e]
  rcases (by omega : p.kind = 1 ∨ p.kind = 2 ∨ p.kind = 3) with h | h | h <;> rw [h] <;> decide
def ns (t : Tpg) (p : Pnt) : Nat → Int
  | 0 => 0
  | k + 1 => ns t p k + cn p (ix t.syss k).name 3
theorem ns_in (t : Tpg) (p : Pnt) : ∀ k, 0 ≤ ns t p k ∧ ns t p k ≤ 3 * (k : Int)
  | 0 => by simp [ns]
  | k + 1 => by
    have ih := ns_in t p k
    have := cn_in p (ix t.syss k).name 3
    simp only [ns]; omega
theorem ns_4 {t : Tpg} {p : Pnt} (h : p.kind = 4) : ∀ k, ns t p k = 0
  | 0 => rfl
  | k + 1 => by simp only [ns]; rw [ns_4 h k, cn_4 h]; rfl
theorem ns_1 {t : Tpg} {p : Pnt} (h : 1 ≤ p.kind ∧ p.kind ≤ 3) {j : Nat} (hj : sEq p.sys (ix t.syss j).name = true) (ho : ∀ q, q < t.syss.length → q ≠ j → sEq p.sys (ix t.syss q).name = false) : ∀ k, k ≤ t.syss.length → ns t p k = if j < k then 1 else 0
  | 0, _ => by simp [ns]
  | k + 1, hk => by
    have ih := ns_1 h hj ho k (by omega)
    simp only [ns]
    rw [ih]
    by_cases e : k = j
    · subst e; rw [cn_1 h hj, if_neg (by omega), if_pos (by omega)]; rfl
    · rw [cn_no (ho k (by omega) e)]
      by_cases g : j < k
      · rw [if_pos g, if_pos (by omega)]; rfl
      · rw [if_neg g, if_neg (by omega)]; rfl
theorem sy_uq {t : Tpg} (h : tck t = 0) {i q : Nat} (hi : i < t.syss.length) (hq : q < i) : sEq (ix t.syss q).name (ix t.syss i).name = false := by
  have h1 := (sy_parts (fe_zero (tck_s0 h).2.1 i (by omega) (by omega))).2
  cases hb : sEq (ix t.syss q).name (ix t.syss i).name with
  | false => rfl
  | true =>
    have hm : ix t.syss q ∈ t.syss.take i := by
      rw [List.mem_take_iff_getElem]
      exact ⟨q, by omega, ix_eq (by omega)⟩
    cases hf : sF (t.syss.take i) (ix t.syss i).name with
    | some y => rw [hf] at h1; cases h1
    | none =>
      unfold sF at hf
      exact absurd hb (List.find?_eq_none.1 hf _ hm)
theorem parts {t : Tpg} (h : tck t = 0) {i : Nat} (hi : i < t.net.pts.length) : 1 ≤ (ix t.net.pts i).kind ∧ (ix t.net.pts i).kind ≤ 4 ∧ ((ix t.net.pts i).kind ≤ 3 → ns t (ix t.net.pts i) t.syss.length = 1 ∧ (sR t (ix t.net.pts i).name).2 = true ∧ sEq (sR t (ix t.net.pts i).name).1.name (ix t.net.pts i).sys = true) := by
  have hk := pt_kind ((gck_0 (tck_gck h)).2.2.1 i hi)
  refine ⟨hk.1, hk.2, fun h3 => ?_⟩
  have hp := fe_zero (tck_s0 h).2.2 i (by omega) (by omega)
  unfold pe1 at hp
  have hv := vT_tck t h
  have hkn := kn_at h
  have hfn : fN (kn t) (ix t.net.pts i).name = (ix t.net.pts i, true) := by
    unfold fN pF
    rw [hkn]
    have hi' : i < (kn t).length := by rw [hkn]; exact hi
    rw [fnd_at (p := fun x : Pnt => sEq x.name (ix t.net.pts i).name) hi (fun q hq => by have := (kn_name hi').2 q hq; rwa [hkn] at this) (by simp [sEq])]
  cases h4 : okP (ix t.net.pts i) (sF t.syss (ix t.net.pts i).sys) with
  | false => rw [h4] at hp; cases hp
  | true =>
    cases h5 : sF t.syss (ix t.net.pts i).sys with
    | none =>
      rw [h5] at h4
      unfold okP at h4
      have e4 : ((ix t.net.pts i).kind == 4) = false := by simp; omega
      rw [e4] at h4
      cases h7 : ((ix t.net.pts i).kind == 1) <;> rw [h7] at h4 <;> cases h4
    | some y =>
      have hn := List.find?_some h5
      have hsr : sR t (ix t.net.pts i).name = (y, true) := by
        unfold sR sy
        rw [hfn, hv]
        show (match sF t.syss (ix t.net.pts i).sys with | some y => (y, true) | none => (zS, false)) = _
        rw [h5]
      obtain ⟨j, hj, he⟩ := mem_ix (List.mem_of_find?_eq_some h5)
      have hjs : sEq (ix t.net.pts i).sys (ix t.syss j).name = true := by rw [he, sEq_eq hn]; simp [sEq]
      refine ⟨?_, by rw [hsr], by rw [hsr]; exact hn⟩
      rw [ns_1 ⟨hk.1, h3⟩ hjs (fun q hq hne => ?_) _ (Nat.le_refl _), if_pos hj]
      cases hb : sEq (ix t.net.pts i).sys (ix t.syss q).name with
      | false => rfl
      | true =>
        have e : (ix t.syss q).name = (ix t.syss j).name := (sEq_eq hb).symm.trans (sEq_eq hjs)
        rcases Nat.lt_or_gt_of_ne hne with g | g
        · have := sy_uq h hj g
          rw [e] at this; simp [sEq] at this
        · have := sy_uq h hq g
          rw [e] at this; simp [sEq] at this

set_option maxHeartbeats 4000000 in
set_option maxRecDepth 100000 in
theorem valid_c (t : Tpg) : Ctr Try.prog 25 [.ag (eTpg t)] (.d (.ag (eTpg (vT t)))) := by
  refine ctr (n := 8) (rs := #[.cell 2 28]) (L := [(0, .d (.ag (eTpg t)))]) Try.func25 rfl rfl rfl rfl rfl (fun w0 U0 => ?_)
  refine a_rseq ?_
  refine rg_nam (d := 1) (v := .pt 101 0) (m := 101) (nw := [(101, .bx 28 (eTpg t))]) rfl (og rfl (of_eff (op_box 101 rfl rfl rfl rfl) rfl)) rfl ?_
  refine rg_nam (d := 2) (v := .pt 102 0) (m := 102) (nw := [(102, .bx 28 [.fl (.slice none 0 0), .fl (.slice none 0 0), .fl (.slice none 0 0)])]) rfl (og rfl (of_eff (s_alloc 102 rfl ti28 (by kernel_rfl) rfl) rfl)) rfl ?_
  refine rg_done rfl ?_
  refine a_seq ?_
  refine a_rseq ?_
  refine rg_put (d := 3) (v := .d (.ag (eTpg t))) rfl (og rfl (of_eff (s_load_pts rfl Try.underlying28 rfl ti28 rfl rfl rfl rfl) rfl)) ?_
  refine rg_put (d := 4) (v := .d (.fl (.int .i64 (tck t)))) rfl (og rfl (op_call rfl Try.func6 nm6 rfl (.cons rfl (.d _) .nil) (tck_c t) rfl)) ?_
  refine rg_put (d := 5) (v := .d (.fl (.bool (((tck t) != 0))))) rfl (og rfl (op_bin rfl rfl rfl (b_neq _ _ _ _) rfl)) ?_
  refine rg_done rfl ?_
  refine a_cond rfl (fun h1 => ?_) (fun h1 => ?_)
  · skip
    have h2 := t_bne h1
    refine a_rseq ?_
    refine rg_put (d := 6) (v := .d (.ag [.fl (.slice none 0 0), .fl (.slice none 0 0), .fl (.slice none 0 0)])) rfl (og rfl (of_eff (op_build rfl Try.underlying28 ti28 rfl (by kernel_rfl) (by kernel_rfl) (pl := #[(0, 2), (2, 1)]) (by kernel_rfl) .nil rfl) rfl)) ?_
    refine rg_sto (nw := [(102, .bx 28 [.fl (.slice none 0 0), .fl (.slice none 0 0), .fl (.slice none 0 0)])]) rfl (og rfl (of_eff (s_store rfl rfl ti28 rfl rfl rfl rfl rfl rfl) rfl)) ?_
    refine rg_done rfl ?_
    refine a_ret ?_
    show ∃ ds, ResL _ _ _ ds ∧ RV.of ds = _
    refine ⟨[.ag [.sl 3 (List.map ePnt []), .sl 4 (List.map eLnk []), .sl 3 (List.map eSys [])]], (.cons (.cellT rfl rfl Try.underlying28 rfl ti28 rfl (Cv.ag (xs := [.fl (.slice none 0 0), .fl (.slice none 0 0), .fl (.slice none 0 0)]) (ys := [.sl 3 (List.map ePnt []), .sl 4 (List.map eLnk []), .sl 3 (List.map eSys [])]) ⟨Cv.nil _, Cv.nil _, Cv.nil _, trivial⟩)) .nil), ?_⟩
    rw [show vT t = _ from if_neg (t_bne h1)]; rfl
  · skip
    have h3 := f_bne h1
    refine a_skip ?_
    show A _ _ _ _ _ _ _
    refine a_rseq ?_
    refine rg_put (d := 7) (v := .d (.ag (eTpg t))) rfl (og rfl (of_eff (s_load_pts rfl Try.underlying28 rfl ti28 rfl rfl rfl rfl) rfl)) ?_
    refine rg_sto (nw := [(102, .bx 28 (eTpg t))]) rfl (og rfl (of_eff (s_store rfl rfl ti28 rfl rfl rfl rfl rfl rfl) rfl)) ?_
    refine rg_done rfl ?_
    refine a_ret ?_
    show ∃ ds, ResL _ _ _ ds ∧ RV.of ds = _
    refine ⟨[.ag [.sl 3 (List.map ePnt t.net.pts), .sl 4 (List.map eLnk t.net.lks), .sl 3 (List.map eSys t.syss)]], (.cons (.cellT rfl rfl Try.underlying28 rfl ti28 rfl (Cv.ag (xs := [.sl 3 (List.map ePnt t.net.pts), .sl 4 (List.map eLnk t.net.lks), .sl 3 (List.map eSys t.syss)]) (ys := [.sl 3 (List.map ePnt t.net.pts), .sl 4 (List.map eLnk t.net.lks), .sl 3 (List.map eSys t.syss)]) ⟨Cv.refl _, Cv.refl _, Cv.refl _, trivial⟩)) .nil), ?_⟩
    rw [show vT t = _ from if_pos (f_bne h1)]; rfl
set_option maxHeartbeats 4000000 in
set_option maxRecDepth 100000 in
theorem clP (a : Pnt) (s : ByteArray) : Ctr Try.prog 38 [.ag (ePnt a), .el [.fl (.string s)]] (.d (.fl (.bool (sEq a.name s)))) := by
  refine ctr (n := 8) (rs := #[.tmp 3]) (L := [(0, .d (.ag (ePnt a))), (1, .el [.fl (.string s)])]) Try.func38 rfl rfl rfl rfl rfl (fun w0 U0 => ?_)
  refine a_rseq ?_
  refine rg_nam (d := 2) (v := .pt 101 0) (m := 101) (nw := [(101, .bx 35 (ePnt a))]) rfl (og rfl (of_eff (op_box 101 rfl rfl rfl rfl) rfl)) rfl ?_
  refine rg_put (d := 3) (v := .d (.fl (.bool false))) rfl (og rfl (op_assign rfl rfl rfl)) ?_
  refine rg_done rfl ?_
  refine a_rseq ?_
  refine rg_put (d := 4) (v := .pt 101 0) rfl (og rfl (of_eff (s_field_pt rfl Try.underlying35 rfl ti9 rfl rfl rfl) rfl)) ?_
  refine rg_put (d := 5) (v := .d (.fl (.string a.name))) rfl (og rfl (op_load_pt rfl Try.underlying9 rfl rfl rfl rfl rfl)) ?_
  refine rg_put (d := 6) (v := .d (.fl (.string s))) rfl (og rfl (op_load_el rfl Try.underlying9 rfl rfl rfl rfl)) ?_
  refine rg_put (d := 7) (v := .d (.fl (.bool (sEq a.name s)))) rfl (og rfl (op_bin rfl rfl rfl (b_seq _ _ _) rfl)) ?_
  refine rg_put (d := 3) (v := .d (.fl (.bool (sEq a.name s)))) rfl (og rfl (op_assign rfl rfl rfl)) ?_
  refine rg_done rfl ?_
  refine a_ret ?_
  show ∃ ds, ResL _ _ _ ds ∧ RV.of ds = _
  refine ⟨[.fl (.bool (sEq a.name s))], (.cons (.tmp rfl (.d _)) .nil), ?_⟩
  rfl
set_option maxHeartbeats 4000000 in
set_option maxRecDepth 100000 in
theorem ixP (l : List Pnt) (s : ByteArray) (hl : l.length ≤ 1000) : Ctr Try.prog 37 [.sl 3 (List.map ePnt l), .fn 38 [.el [.fl (.string s)]]] (.d (.fl (.int .i64 (nmI l s)))) := by
  refine ctr (n := 19) (rs := #[.tmp 4]) (L := [(0, .d (.sl 3 (List.map ePnt l))), (1, .d (.fn 38 [.el [.fl (.string s)]]))]) Try.func37 rfl rfl rfl rfl rfl (fun w0 U0 => ?_)
  refine a_rseq ?_
  refine rg_put (d := 4) (v := .d (.fl (.int .i64 0))) rfl (og rfl (op_assign rfl rfl rfl)) ?_
  refine rg_done rfl ?_
  refine a_seq ?_
  refine a_rseq ?_
  refine rg_put (d := 6) (v := .d (.sl 3 (List.map ePnt l))) rfl (og rfl (op_move rfl rfl rfl)) ?_
  refine rg_put (d := 7) (v := .d (.fl (.int .i64 (l.length : Int)))) rfl (og rfl (s_len rfl Try.underlying22 rfl rfl)) ?_
  refine rg_put (d := 8) (v := .d (.fl (.int .i64 0))) rfl (og rfl (op_move rfl rfl rfl)) ?_
  refine rg_done rfl ?_
  refine a_block ?_
  refine a_loop (ι := Nat) (fun k => SS [(0, .d (.sl 3 (List.map ePnt l))), (1, .d (.fn 38 [.el [.fl (.string s)]])), (7, .d (.fl (.int .i64 (l.length : Int)))), (8, .d (.fl (.int .i64 (k : Int))))] []) (fun k => k ≤ l.length ∧ ∀ q, q < k → (sEq (ix l q).name s) = false) (fun k => l.length - k) 0 (⟨by omega, fun q h => by omega⟩) (imp_forget rfl ⟨rfl, rfl, rfl, (by first | rfl | exact ci (by omega) | exact ci (by simp) | exact cd (by simp) | simp), trivial⟩ trivial) (fun k hok => ?_)
  obtain ⟨hkk, hq⟩ := hok
  refine a_rseq ?_
  refine rg_put (d := 9) (v := .d (.fl (.bool ((decide ((k : Int) < (l.length : Int))))))) rfl (og rfl (op_bin rfl rfl rfl (b_lss _ _ _ _) rfl)) ?_
  refine rg_done rfl ?_
  refine a_seq ?_
  refine a_cond rfl (fun h1 => ?_) (fun h1 => ?_)
  · skip
    have h2 := t_dec h1
    refine a_skip ?_
    show A _ _ _ _ _ _ _
    refine a_seq ?_
    refine a_block ?_
    refine a_rseq ?_
    refine rg_put (d := 10) (v := .d (.fl (.int .i64 (k : Int)))) rfl (og rfl (op_move rfl rfl rfl)) ?_
    refine rg_put (d := 5) (v := .d (.fl (.int .i64 (k : Int)))) rfl (og rfl (op_assign rfl rfl rfl)) ?_
    refine rg_done rfl ?_
    refine a_rseq ?_
    refine rg_put (d := 11) (v := .d (.fn 38 [.el [.fl (.string s)]])) rfl (og rfl (op_move rfl rfl rfl)) ?_
    refine rg_put (d := 12) (v := .d (.sl 3 (List.map ePnt l))) rfl (og rfl (op_move rfl rfl rfl)) ?_
    refine rg_put (d := 13) (v := .d (.fl (.int .i64 (k : Int)))) rfl (og rfl (op_move rfl rfl rfl)) ?_
    refine rg_put (d := 14) (v := .el ((ePnt (ix l k)))) rfl (og rfl (s_index rfl Try.underlying22 ti35 rfl rfl (by omega) (row_at (by omega)) rfl)) ?_
    refine rg_put (d := 15) (v := .d (.ag (ePnt (ix l k)))) rfl (og rfl (of_eff (s_load_els rfl Try.underlying35 rfl ti35 rfl rfl rfl) rfl)) ?_
    refine rg_put (d := 16) (v := .d (.fl (.bool ((sEq (ix l k).name s))))) rfl (og rfl (op_callV rfl rfl ⟨_, Try.func38, nm38, rfl⟩ (.cons rfl (.d _) .nil) (clP (ix l k) s) rfl)) ?_
    refine rg_done rfl ?_
    refine a_cond rfl (fun h3 => ?_) (fun h3 => ?_)
    · skip
      refine a_rseq ?_
      refine rg_put (d := 17) (v := .d (.fl (.int .i64 (k : Int)))) rfl (og rfl (op_move rfl rfl rfl)) ?_
      refine rg_put (d := 4) (v := .d (.fl (.int .i64 (k : Int)))) rfl (og rfl (op_assign rfl rfl rfl)) ?_
      refine rg_done rfl ?_
      refine a_ret ?_
      show ∃ ds, ResL _ _ _ ds ∧ RV.of ds = _
      refine ⟨[.fl (.int .i64 (k : Int))], (.cons (.tmp rfl (.d _)) .nil), ?_⟩
      have hu : nmI l s = (k : Int) := idx_at (by omega) hq h3
      rw [hu]; rfl
    · skip
      refine a_skip ?_
      show A _ _ _ _ _ _ _
      refine a_region ?_
      refine rg_put (d := 18) (v := .d (.fl (.int .i64 (((k : Int) + 1))))) rfl (og rfl (op_bin rfl rfl rfl (fun x y w => b_add64 _ _ _ x y w (by omega)) rfl)) ?_
      refine rg_put (d := 8) (v := .d (.fl (.int .i64 (((k : Int) + 1))))) rfl (og rfl (op_move rfl rfl rfl)) ?_
      refine rg_done rfl ?_
      have hx : (sEq (ix l k).name s) = false := h3
      show ∃ i, _ ∧ _ ∧ Imp _ _ _ _ _
      refine ⟨k + 1, ⟨by omega, fun q h => (Nat.lt_succ_iff_lt_or_eq.1 h).elim (hq q) (fun e => by rw [e]; exact hx)⟩, by omega, imp_forget rfl ⟨rfl, rfl, rfl, (by first | rfl | exact ci (by omega) | exact ci (by simp) | exact cd (by simp) | simp), trivial⟩ trivial⟩
  · skip
    have h4 := f_dec h1
    refine a_exit ?_
    show A _ _ _ _ _ _ _
    refine a_rseq ?_
    refine rg_put (d := 4) (v := .d (.fl (.int .i64 (-1)))) rfl (og rfl (op_assign rfl rfl rfl)) ?_
    refine rg_done rfl ?_
    refine a_ret ?_
    show ∃ ds, ResL _ _ _ ds ∧ RV.of ds = _
    refine ⟨[.fl (.int .i64 (-1))], (.cons (.tmp rfl (.d _)) .nil), ?_⟩
    have hu : nmI l s = -1 := idx_no (fun q h => hq q (by omega))
    rw [hu]; rfl
set_option maxHeartbeats 4000000 in
set_option maxRecDepth 100000 in
theorem pntC (t : Tpg) (s : ByteArray) (hl : t.net.pts.length ≤ 1000) : Ctr Try.prog 27 [.ag (eTpg t), .fl (.string s)] (.tu [.ag (ePnt (fN t.net.pts s).1), .fl (.bool (fN t.net.pts s).2)]) := by
  refine ctr (n := 21) (rs := #[.cell 4 35, .tmp 5]) (L := [(0, .d (.ag (eTpg t))), (1, .d (.fl (.string s)))]) Try.func27 rfl rfl rfl rfl rfl (fun w0 U0 => ?_)
  refine a_rseq ?_
  refine rg_nam (d := 2) (v := .pt 101 0) (m := 101) (nw := [(101, .bx 28 (eTpg t))]) rfl (og rfl (of_eff (op_box 101 rfl rfl rfl rfl) rfl)) rfl ?_
  refine rg_nam (d := 3) (v := .pt 102 0) (m := 102) (nw := [(102, .bx 9 [.fl (.string s)])]) rfl (og rfl (of_eff (op_box 102 rfl rfl rfl rfl) rfl)) rfl ?_
  refine rg_nam (d := 4) (v := .pt 103 0) (m := 103) (nw := [(103, .bx 35 ([.fl (.string (⟨#[]⟩)), .fl (.int .i64 0), .fl (.string (⟨#[]⟩))]))]) rfl (og rfl (of_eff (s_alloc 103 rfl ti35 (by kernel_rfl) rfl) rfl)) rfl ?_
  refine rg_put (d := 5) (v := .d (.fl (.bool false))) rfl (og rfl (op_assign rfl rfl rfl)) ?_
  refine rg_done rfl ?_
  refine a_rseq ?_
  refine rg_imp (imp_freeze 3 102 rfl rfl) ?_
  refine rg_put (d := 7) (v := .pt 101 0) rfl (og rfl (of_eff (s_field_pt rfl Try.underlying28 rfl ti25 rfl rfl rfl) rfl)) ?_
  refine rg_put (d := 8) (v := .pt 101 0) rfl (og rfl (of_eff (s_field_pt rfl Try.underlying25 rfl ti22 rfl rfl rfl) rfl)) ?_
  refine rg_put (d := 9) (v := .d (.sl 3 (List.map ePnt t.net.pts))) rfl (og rfl (op_load_pt rfl Try.underlying22 rfl rfl rfl rfl rfl)) ?_
  refine rg_put (d := 10) (v := .d (.fn 38 [.el [.fl (.string s)]])) rfl (og rfl (op_mkfn rfl (.cons rfl .nil) rfl)) ?_
  refine rg_put (d := 11) (v := .d (.fl (.int .i64 (nmI t.net.pts s)))) rfl (og rfl (op_call rfl Try.func37 nm37 rfl (.cons rfl (.d _) (.cons rfl (.d _) .nil)) (ixP t.net.pts s (by omega)) rfl)) ?_
  refine rg_put (d := 6) (v := .d (.fl (.int .i64 (nmI t.net.pts s)))) rfl (og rfl (op_assign rfl rfl rfl)) ?_
  refine rg_done rfl ?_
  refine a_seq ?_
  refine a_rseq ?_
  refine rg_put (d := 12) (v := .d (.fl (.int .i64 (nmI t.net.pts s)))) rfl (og rfl (op_move rfl rfl rfl)) ?_
  refine rg_put (d := 13) (v := .d (.fl (.bool ((decide ((nmI t.net.pts s) < 0)))))) rfl (og rfl (op_bin rfl rfl rfl (b_lss _ _ _ _) rfl)) ?_
  refine rg_done rfl ?_
  refine a_cond rfl (fun h1 => ?_) (fun h1 => ?_)
  · skip
    have h2 := t_dec h1
    refine a_rseq ?_
    refine rg_put (d := 14) (v := .d (.ag (ePnt ((Pnt.mk (⟨#[]⟩) 0 (⟨#[]⟩)))))) rfl (og rfl (of_eff (op_build rfl Try.underlying35 ti35 rfl (by kernel_rfl) (by kernel_rfl) (pl := #[(0, 1), (1, 1), (2, 1)]) (by kernel_rfl) .nil rfl) rfl)) ?_
    refine rg_sto (nw := [(103, .bx 35 ((ePnt ((Pnt.mk (⟨#[]⟩) 0 (⟨#[]⟩))))))]) rfl (og rfl (of_eff (s_store rfl rfl ti35 rfl rfl rfl rfl rfl rfl) rfl)) ?_
    refine rg_put (d := 5) (v := .d (.fl (.bool false))) rfl (og rfl (op_assign rfl rfl rfl)) ?_
    refine rg_done rfl ?_
    refine a_ret ?_
    show ∃ ds, ResL _ _ _ ds ∧ RV.of ds = _
    refine ⟨[.ag [.fl (.string (((Pnt.mk (⟨#[]⟩) 0 (⟨#[]⟩))).name)), .fl (.int .i64 (((Pnt.mk (⟨#[]⟩) 0 (⟨#[]⟩))).kind)), .fl (.string (((Pnt.mk (⟨#[]⟩) 0 (⟨#[]⟩))).sys))], .fl (.bool false)], (.cons (.cellT rfl rfl Try.underlying35 rfl ti35 rfl (Cv.ag (xs := [.fl (.string (((Pnt.mk (⟨#[]⟩) 0 (⟨#[]⟩))).name)), .fl (.int .i64 (((Pnt.mk (⟨#[]⟩) 0 (⟨#[]⟩))).kind)), .fl (.string (((Pnt.mk (⟨#[]⟩) 0 (⟨#[]⟩))).sys))]) (ys := [.fl (.string (((Pnt.mk (⟨#[]⟩) 0 (⟨#[]⟩))).name)), .fl (.int .i64 (((Pnt.mk (⟨#[]⟩) 0 (⟨#[]⟩))).kind)), .fl (.string (((Pnt.mk (⟨#[]⟩) 0 (⟨#[]⟩))).sys))]) ⟨Cv.refl _, Cv.refl _, Cv.refl _, trivial⟩)) (.cons (.tmp rfl (.d _)) .nil)), ?_⟩
    rw [fN_neg (of_decide_eq_true h1)]; rfl
  · skip
    have h3 := f_dec h1
    refine a_skip ?_
    show A _ _ _ _ _ _ _
    refine a_rseq ?_
    obtain ⟨ha0, ha1, hat⟩ := fN_at (of_decide_eq_false h1)
    refine rg_put (d := 15) (v := .pt 101 0) rfl (og rfl (of_eff (s_field_pt rfl Try.underlying28 rfl ti25 rfl rfl rfl) rfl)) ?_
    refine rg_put (d := 16) (v := .pt 101 0) rfl (og rfl (of_eff (s_field_pt rfl Try.underlying25 rfl ti22 rfl rfl rfl) rfl)) ?_
    refine rg_put (d := 17) (v := .d (.sl 3 (List.map ePnt t.net.pts))) rfl (og rfl (op_load_pt rfl Try.underlying22 rfl rfl rfl rfl rfl)) ?_
    refine rg_put (d := 18) (v := .d (.fl (.int .i64 (nmI t.net.pts s)))) rfl (og rfl (op_move rfl rfl rfl)) ?_
    refine rg_put (d := 19) (v := .el ((ePnt ((ix t.net.pts ((nmI t.net.pts s)).toNat))))) rfl (og rfl (s_index rfl Try.underlying22 ti35 rfl rfl (by omega) (row_atI (by omega) (by omega)) rfl)) ?_
    refine rg_put (d := 20) (v := .d (.ag (ePnt (((ix t.net.pts ((nmI t.net.pts s)).toNat)))))) rfl (og rfl (of_eff (s_load_els rfl Try.underlying35 rfl ti35 rfl rfl rfl) rfl)) ?_
    refine rg_sto (nw := [(103, .bx 35 ((ePnt (((ix t.net.pts ((nmI t.net.pts s)).toNat))))))]) rfl (og rfl (of_eff (s_store rfl rfl ti35 rfl rfl rfl rfl rfl rfl) rfl)) ?_
    refine rg_put (d := 5) (v := .d (.fl (.bool true))) rfl (og rfl (op_assign rfl rfl rfl)) ?_
    refine rg_done rfl ?_
    refine a_ret ?_
    show ∃ ds, ResL _ _ _ ds ∧ RV.of ds = _
    refine ⟨[.ag [.fl (.string ((((ix t.net.pts ((nmI t.net.pts s)).toNat))).name)), .fl (.int .i64 ((((ix t.net.pts ((nmI t.net.pts s)).toNat))).kind)), .fl (.string ((((ix t.net.pts ((nmI t.net.pts s)).toNat))).sys))], .fl (.bool true)], (.cons (.cellT rfl rfl Try.underlying35 rfl ti35 rfl (Cv.ag (xs := [.fl (.string ((((ix t.net.pts ((nmI t.net.pts s)).toNat))).name)), .fl (.int .i64 ((((ix t.net.pts ((nmI t.net.pts s)).toNat))).kind)), .fl (.string ((((ix t.net.pts ((nmI t.net.pts s)).toNat))).sys))]) (ys := [.fl (.string ((((ix t.net.pts ((nmI t.net.pts s)).toNat))).name)), .fl (.int .i64 ((((ix t.net.pts ((nmI t.net.pts s)).toNat))).kind)), .fl (.string ((((ix t.net.pts ((nmI t.net.pts s)).toNat))).sys))]) ⟨Cv.refl _, Cv.refl _, Cv.refl _, trivial⟩)) (.cons (.tmp rfl (.d _)) .nil)), ?_⟩
    rw [hat]; rfl
set_option maxHeartbeats 4000000 in
set_option maxRecDepth 100000 in
theorem clS (a : Sys) (s : ByteArray) : Ctr Try.prog 40 [.ag (eSys a), .el [.fl (.string s)]] (.d (.fl (.bool (sEq a.name s)))) := by
  refine ctr (n := 8) (rs := #[.tmp 3]) (L := [(0, .d (.ag (eSys a))), (1, .el [.fl (.string s)])]) Try.func40 rfl rfl rfl rfl rfl (fun w0 U0 => ?_)
  refine a_rseq ?_
  refine rg_nam (d := 2) (v := .pt 101 0) (m := 101) (nw := [(101, .bx 40 (eSys a))]) rfl (og rfl (of_eff (op_box 101 rfl rfl rfl rfl) rfl)) rfl ?_
  refine rg_put (d := 3) (v := .d (.fl (.bool false))) rfl (og rfl (op_assign rfl rfl rfl)) ?_
  refine rg_done rfl ?_
  refine a_rseq ?_
  refine rg_put (d := 4) (v := .pt 101 0) rfl (og rfl (of_eff (s_field_pt rfl Try.underlying40 rfl ti9 rfl rfl rfl) rfl)) ?_
  refine rg_put (d := 5) (v := .d (.fl (.string a.name))) rfl (og rfl (op_load_pt rfl Try.underlying9 rfl rfl rfl rfl rfl)) ?_
  refine rg_put (d := 6) (v := .d (.fl (.string s))) rfl (og rfl (op_load_el rfl Try.underlying9 rfl rfl rfl rfl)) ?_
  refine rg_put (d := 7) (v := .d (.fl (.bool (sEq a.name s)))) rfl (og rfl (op_bin rfl rfl rfl (b_seq _ _ _) rfl)) ?_
  refine rg_put (d := 3) (v := .d (.fl (.bool (sEq a.name s)))) rfl (og rfl (op_assign rfl rfl rfl)) ?_
  refine rg_done rfl ?_
  refine a_ret ?_
  show ∃ ds, ResL _ _ _ ds ∧ RV.of ds = _
  refine ⟨[.fl (.bool (sEq a.name s))], (.cons (.tmp rfl (.d _)) .nil), ?_⟩
  rfl
set_option maxHeartbeats 4000000 in
set_option maxRecDepth 100000 in
theorem ixS (l : List Sys) (s : ByteArray) (hl : l.length ≤ 1000) : Ctr Try.prog 39 [.sl 3 (List.map eSys l), .fn 40 [.el [.fl (.string s)]]] (.d (.fl (.int .i64 (nmJ l s)))) := by
  refine ctr (n := 19) (rs := #[.tmp 4]) (L := [(0, .d (.sl 3 (List.map eSys l))), (1, .d (.fn 40 [.el [.fl (.string s)]]))]) Try.func39 rfl rfl rfl rfl rfl (fun w0 U0 => ?_)
  refine a_rseq ?_
  refine rg_put (d := 4) (v := .d (.fl (.int .i64 0))) rfl (og rfl (op_assign rfl rfl rfl)) ?_
  refine rg_done rfl ?_
  refine a_seq ?_
  refine a_rseq ?_
  refine rg_put (d := 6) (v := .d (.sl 3 (List.map eSys l))) rfl (og rfl (op_move rfl rfl rfl)) ?_
  refine rg_put (d := 7) (v := .d (.fl (.int .i64 (l.length : Int)))) rfl (og rfl (s_len rfl Try.underlying26 rfl rfl)) ?_
  refine rg_put (d := 8) (v := .d (.fl (.int .i64 0))) rfl (og rfl (op_move rfl rfl rfl)) ?_
  refine rg_done rfl ?_
  refine a_block ?_
  refine a_loop (ι := Nat) (fun k => SS [(0, .d (.sl 3 (List.map eSys l))), (1, .d (.fn 40 [.el [.fl (.string s)]])), (7, .d (.fl (.int .i64 (l.length : Int)))), (8, .d (.fl (.int .i64 (k : Int))))] []) (fun k => k ≤ l.length ∧ ∀ q, q < k → (sEq (ix l q).name s) = false) (fun k => l.length - k) 0 (⟨by omega, fun q h => by omega⟩) (imp_forget rfl ⟨rfl, rfl, rfl, (by first | rfl | exact ci (by omega) | exact ci (by simp) | exact cd (by simp) | simp), trivial⟩ trivial) (fun k hok => ?_)
  obtain ⟨hkk, hq⟩ := hok
  refine a_rseq ?_
  refine rg_put (d := 9) (v := .d (.fl (.bool ((decide ((k : Int) < (l.length : Int))))))) rfl (og rfl (op_bin rfl rfl rfl (b_lss _ _ _ _) rfl)) ?_
  refine rg_done rfl ?_
  refine a_seq ?_
  refine a_cond rfl (fun h1 => ?_) (fun h1 => ?_)
  · skip
    have h2 := t_dec h1
    refine a_skip ?_
    show A _ _ _ _ _ _ _
    refine a_seq ?_
    refine a_block ?_
    refine a_rseq ?_
    refine rg_put (d := 10) (v := .d (.fl (.int .i64 (k : Int)))) rfl (og rfl (op_move rfl rfl rfl)) ?_
    refine rg_put (d := 5) (v := .d (.fl (.int .i64 (k : Int)))) rfl (og rfl (op_assign rfl rfl rfl)) ?_
    refine rg_done rfl ?_
    refine a_rseq ?_
    refine rg_put (d := 11) (v := .d (.fn 40 [.el [.fl (.string s)]])) rfl (og rfl (op_move rfl rfl rfl)) ?_
    refine rg_put (d := 12) (v := .d (.sl 3 (List.map eSys l))) rfl (og rfl (op_move rfl rfl rfl)) ?_
    refine rg_put (d := 13) (v := .d (.fl (.int .i64 (k : Int)))) rfl (og rfl (op_move rfl rfl rfl)) ?_
    refine rg_put (d := 14) (v := .el ((eSys (ix l k)))) rfl (og rfl (s_index rfl Try.underlying26 ti40 rfl rfl (by omega) (row_at (by omega)) rfl)) ?_
    refine rg_put (d := 15) (v := .d (.ag (eSys (ix l k)))) rfl (og rfl (of_eff (s_load_els rfl Try.underlying40 rfl ti40 rfl rfl rfl) rfl)) ?_
    refine rg_put (d := 16) (v := .d (.fl (.bool ((sEq (ix l k).name s))))) rfl (og rfl (op_callV rfl rfl ⟨_, Try.func40, nm40, rfl⟩ (.cons rfl (.d _) .nil) (clS (ix l k) s) rfl)) ?_
    refine rg_done rfl ?_
    refine a_cond rfl (fun h3 => ?_) (fun h3 => ?_)
    · skip
      refine a_rseq ?_
      refine rg_put (d := 17) (v := .d (.fl (.int .i64 (k : Int)))) rfl (og rfl (op_move rfl rfl rfl)) ?_
      refine rg_put (d := 4) (v := .d (.fl (.int .i64 (k : Int)))) rfl (og rfl (op_assign rfl rfl rfl)) ?_
      refine rg_done rfl ?_
      refine a_ret ?_
      show ∃ ds, ResL _ _ _ ds ∧ RV.of ds = _
      refine ⟨[.fl (.int .i64 (k : Int))], (.cons (.tmp rfl (.d _)) .nil), ?_⟩
      have hu : nmJ l s = (k : Int) := idx_at (by omega) hq h3
      rw [hu]; rfl
    · skip
      refine a_skip ?_
      show A _ _ _ _ _ _ _
      refine a_region ?_
      refine rg_put (d := 18) (v := .d (.fl (.int .i64 (((k : Int) + 1))))) rfl (og rfl (op_bin rfl rfl rfl (fun x y w => b_add64 _ _ _ x y w (by omega)) rfl)) ?_
      refine rg_put (d := 8) (v := .d (.fl (.int .i64 (((k : Int) + 1))))) rfl (og rfl (op_move rfl rfl rfl)) ?_
      refine rg_done rfl ?_
      have hx : (sEq (ix l k).name s) = false := h3
      show ∃ i, _ ∧ _ ∧ Imp _ _ _ _ _
      refine ⟨k + 1, ⟨by omega, fun q h => (Nat.lt_succ_iff_lt_or_eq.1 h).elim (hq q) (fun e => by rw [e]; exact hx)⟩, by omega, imp_forget rfl ⟨rfl, rfl, rfl, (by first | rfl | exact ci (by omega) | exact ci (by simp) | exact cd (by simp) | simp), trivial⟩ trivial⟩
  · skip
    have h4 := f_dec h1
    refine a_exit ?_
    show A _ _ _ _ _ _ _
    refine a_rseq ?_
    refine rg_put (d := 4) (v := .d (.fl (.int .i64 (-1)))) rfl (og rfl (op_assign rfl rfl rfl)) ?_
    refine rg_done rfl ?_
    refine a_ret ?_
    show ∃ ds, ResL _ _ _ ds ∧ RV.of ds = _
    refine ⟨[.fl (.int .i64 (-1))], (.cons (.tmp rfl (.d _)) .nil), ?_⟩
    have hu : nmJ l s = -1 := idx_no (fun q h => hq q (by omega))
    rw [hu]; rfl
set_option maxHeartbeats 4000000 in
set_option maxRecDepth 100000 in
theorem sstC (t : Tpg) (s : ByteArray) (hl : t.syss.length ≤ 1000) : Ctr Try.prog 28 [.ag (eTpg t), .fl (.string s)] (.tu [.ag (eSys (fS t.syss s).1), .fl (.bool (fS t.syss s).2)]) := by
  refine ctr (n := 19) (rs := #[.cell 4 40, .tmp 5]) (L := [(0, .d (.ag (eTpg t))), (1, .d (.fl (.string s)))]) Try.func28 rfl rfl rfl rfl rfl (fun w0 U0 => ?_)
  refine a_rseq ?_
  refine rg_nam (d := 2) (v := .pt 101 0) (m := 101) (nw := [(101, .bx 28 (eTpg t))]) rfl (og rfl (of_eff (op_box 101 rfl rfl rfl rfl) rfl)) rfl ?_
  refine rg_nam (d := 3) (v := .pt 102 0) (m := 102) (nw := [(102, .bx 9 [.fl (.string s)])]) rfl (og rfl (of_eff (op_box 102 rfl rfl rfl rfl) rfl)) rfl ?_
  refine rg_nam (d := 4) (v := .pt 103 0) (m := 103) (nw := [(103, .bx 40 ([.fl (.string (⟨#[]⟩)), .fl (.bool false), .fl (.int .i64 0)]))]) rfl (og rfl (of_eff (s_alloc 103 rfl ti40 (by kernel_rfl) rfl) rfl)) rfl ?_
  refine rg_put (d := 5) (v := .d (.fl (.bool false))) rfl (og rfl (op_assign rfl rfl rfl)) ?_
  refine rg_done rfl ?_
  refine a_rseq ?_
  refine rg_imp (imp_freeze 3 102 rfl rfl) ?_
  refine rg_put (d := 7) (v := .pt 101 2) rfl (og rfl (of_eff (s_field_pt rfl Try.underlying28 rfl ti26 rfl rfl rfl) rfl)) ?_
  refine rg_put (d := 8) (v := .d (.sl 3 (List.map eSys t.syss))) rfl (og rfl (op_load_pt rfl Try.underlying26 rfl rfl rfl rfl rfl)) ?_
  refine rg_put (d := 9) (v := .d (.fn 40 [.el [.fl (.string s)]])) rfl (og rfl (op_mkfn rfl (.cons rfl .nil) rfl)) ?_
  refine rg_put (d := 10) (v := .d (.fl (.int .i64 (nmJ t.syss s)))) rfl (og rfl (op_call rfl Try.func39 nm39 rfl (.cons rfl (.d _) (.cons rfl (.d _) .nil)) (ixS t.syss s (by omega)) rfl)) ?_
  refine rg_put (d := 6) (v := .d (.fl (.int .i64 (nmJ t.syss s)))) rfl (og rfl (op_assign rfl rfl rfl)) ?_
  refine rg_done rfl ?_
  refine a_seq ?_
  refine a_rseq ?_
  refine rg_put (d := 11) (v := .d (.fl (.int .i64 (nmJ t.syss s)))) rfl (og rfl (op_move rfl rfl rfl)) ?_
  refine rg_put (d := 12) (v := .d (.fl (.bool ((decide ((nmJ t.syss s) < 0)))))) rfl (og rfl (op_bin rfl rfl rfl (b_lss _ _ _ _) rfl)) ?_
  refine rg_done rfl ?_
  refine a_cond rfl (fun h1 => ?_) (fun h1 => ?_)
  · skip
    have h2 := t_dec h1
    refine a_rseq ?_
    refine rg_put (d := 13) (v := .d (.ag (eSys ((Sys.mk (⟨#[]⟩) false 0))))) rfl (og rfl (of_eff (op_build rfl Try.underlying40 ti40 rfl (by kernel_rfl) (by kernel_rfl) (pl := #[(0, 1), (1, 1), (2, 1)]) (by kernel_rfl) .nil rfl) rfl)) ?_
    refine rg_sto (nw := [(103, .bx 40 ((eSys ((Sys.mk (⟨#[]⟩) false 0)))))]) rfl (og rfl (of_eff (s_store rfl rfl ti40 rfl rfl rfl rfl rfl rfl) rfl)) ?_
    refine rg_put (d := 5) (v := .d (.fl (.bool false))) rfl (og rfl (op_assign rfl rfl rfl)) ?_
    refine rg_done rfl ?_
    refine a_ret ?_
    show ∃ ds, ResL _ _ _ ds ∧ RV.of ds = _
    refine ⟨[.ag [.fl (.string (((Sys.mk (⟨#[]⟩) false 0)).name)), .fl (.bool (((Sys.mk (⟨#[]⟩) false 0)).closed)), .fl (.int .i64 (((Sys.mk (⟨#[]⟩) false 0)).most))], .fl (.bool false)], (.cons (.cellT rfl rfl Try.underlying40 rfl ti40 rfl (Cv.ag (xs := [.fl (.string (((Sys.mk (⟨#[]⟩) false 0)).name)), .fl (.bool (((Sys.mk (⟨#[]⟩) false 0)).closed)), .fl (.int .i64 (((Sys.mk (⟨#[]⟩) false 0)).most))]) (ys := [.fl (.string (((Sys.mk (⟨#[]⟩) false 0)).name)), .fl (.bool (((Sys.mk (⟨#[]⟩) false 0)).closed)), .fl (.int .i64 (((Sys.mk (⟨#[]⟩) false 0)).most))]) ⟨Cv.refl _, Cv.refl _, Cv.refl _, trivial⟩)) (.cons (.tmp rfl (.d _)) .nil)), ?_⟩
    rw [fS_neg (of_decide_eq_true h1)]; rfl
  · skip
    have h3 := f_dec h1
    refine a_skip ?_
    show A _ _ _ _ _ _ _
    refine a_rseq ?_
    obtain ⟨ha0, ha1, hat⟩ := fS_at (of_decide_eq_false h1)
    refine rg_put (d := 14) (v := .pt 101 2) rfl (og rfl (of_eff (s_field_pt rfl Try.underlying28 rfl ti26 rfl rfl rfl) rfl)) ?_
    refine rg_put (d := 15) (v := .d (.sl 3 (List.map eSys t.syss))) rfl (og rfl (op_load_pt rfl Try.underlying26 rfl rfl rfl rfl rfl)) ?_
    refine rg_put (d := 16) (v := .d (.fl (.int .i64 (nmJ t.syss s)))) rfl (og rfl (op_move rfl rfl rfl)) ?_
    refine rg_put (d := 17) (v := .el ((eSys ((ix t.syss ((nmJ t.syss s)).toNat))))) rfl (og rfl (s_index rfl Try.underlying26 ti40 rfl rfl (by omega) (row_atI (by omega) (by omega)) rfl)) ?_
    refine rg_put (d := 18) (v := .d (.ag (eSys (((ix t.syss ((nmJ t.syss s)).toNat)))))) rfl (og rfl (of_eff (s_load_els rfl Try.underlying40 rfl ti40 rfl rfl rfl) rfl)) ?_
    refine rg_sto (nw := [(103, .bx 40 ((eSys (((ix t.syss ((nmJ t.syss s)).toNat))))))]) rfl (og rfl (of_eff (s_store rfl rfl ti40 rfl rfl rfl rfl rfl rfl) rfl)) ?_
    refine rg_put (d := 5) (v := .d (.fl (.bool true))) rfl (og rfl (op_assign rfl rfl rfl)) ?_
    refine rg_done rfl ?_
    refine a_ret ?_
    show ∃ ds, ResL _ _ _ ds ∧ RV.of ds = _
    refine ⟨[.ag [.fl (.string ((((ix t.syss ((nmJ t.syss s)).toNat))).name)), .fl (.bool ((((ix t.syss ((nmJ t.syss s)).toNat))).closed)), .fl (.int .i64 ((((ix t.syss ((nmJ t.syss s)).toNat))).most))], .fl (.bool true)], (.cons (.cellT rfl rfl Try.underlying40 rfl ti40 rfl (Cv.ag (xs := [.fl (.string ((((ix t.syss ((nmJ t.syss s)).toNat))).name)), .fl (.bool ((((ix t.syss ((nmJ t.syss s)).toNat))).closed)), .fl (.int .i64 ((((ix t.syss ((nmJ t.syss s)).toNat))).most))]) (ys := [.fl (.string ((((ix t.syss ((nmJ t.syss s)).toNat))).name)), .fl (.bool ((((ix t.syss ((nmJ t.syss s)).toNat))).closed)), .fl (.int .i64 ((((ix t.syss ((nmJ t.syss s)).toNat))).most))]) ⟨Cv.refl _, Cv.refl _, Cv.refl _, trivial⟩)) (.cons (.tmp rfl (.d _)) .nil)), ?_⟩
    rw [hat]; rfl
set_option maxHeartbeats 4000000 in
set_option maxRecDepth 100000 in
theorem sysC (t : Tpg) (s : ByteArray) : Ctr Try.prog 11 [.ag (eTpg t), .fl (.string s)] (.tu [.ag (eSys (sR t s).1), .fl (.bool (sR t s).2)]) := by
  refine ctr (n := 22) (rs := #[.cell 4 40, .tmp 5]) (L := [(0, .d (.ag (eTpg t))), (1, .d (.fl (.string s)))]) Try.func11 rfl rfl rfl rfl rfl (fun w0 U0 => ?_)
  refine a_rseq ?_
  refine rg_nam (d := 2) (v := .pt 101 0) (m := 101) (nw := [(101, .bx 28 (eTpg t))]) rfl (og rfl (of_eff (op_box 101 rfl rfl rfl rfl) rfl)) rfl ?_
  refine rg_nam (d := 4) (v := .pt 102 0) (m := 102) (nw := [(102, .bx 40 ([.fl (.string (⟨#[]⟩)), .fl (.bool false), .fl (.int .i64 0)]))]) rfl (og rfl (of_eff (s_alloc 102 rfl ti40 (by kernel_rfl) rfl) rfl)) rfl ?_
  refine rg_put (d := 5) (v := .d (.fl (.bool false))) rfl (og rfl (op_assign rfl rfl rfl)) ?_
  refine rg_done rfl ?_
  refine a_rseq ?_
  refine rg_put (d := 8) (v := .d (.ag (eTpg t))) rfl (og rfl (of_eff (s_load_pts rfl Try.underlying28 rfl ti28 rfl rfl rfl rfl) rfl)) ?_
  refine rg_put (d := 9) (v := .d (.ag (eTpg (vT t)))) rfl (og rfl (op_call rfl Try.func25 nm25 rfl (.cons rfl (.d _) .nil) (valid_c t) rfl)) ?_
  refine rg_sto (nw := [(101, .bx 28 ((eTpg (vT t))))]) rfl (og rfl (of_eff (s_store rfl rfl ti28 rfl rfl rfl rfl rfl rfl) rfl)) ?_
  refine rg_done rfl ?_
  refine a_rseq ?_
  refine rg_put (d := 11) (v := .d (.ag (eTpg (vT t)))) rfl (og rfl (of_eff (s_load_pts rfl Try.underlying28 rfl ti28 rfl rfl rfl rfl) rfl)) ?_
  refine rg_put (d := 12) (v := .d (.fl (.string s))) rfl (og rfl (op_move rfl rfl rfl)) ?_
  refine rg_put (d := 13) (v := .tu [.ag (ePnt ((fN (vT t).net.pts s).1)), .fl (.bool ((fN (vT t).net.pts s).2))]) rfl (og rfl (op_call rfl Try.func27 nm27 rfl (.cons rfl (.d _) (.cons rfl (.d _) .nil)) (pntC (vT t) s (by have := vT_len t; omega)) rfl)) ?_
  refine rg_put (d := 10) (v := .tu [.ag (ePnt ((fN (vT t).net.pts s).1)), .fl (.bool ((fN (vT t).net.pts s).2))]) rfl (og rfl (op_move rfl rfl rfl)) ?_
  refine rg_put (d := 14) (v := .d (.ag (ePnt ((fN (vT t).net.pts s).1)))) rfl (og rfl (op_extract rfl rfl rfl rfl)) ?_
  refine rg_put (d := 15) (v := .d (.fl (.bool ((fN (vT t).net.pts s).2)))) rfl (og rfl (op_extract rfl rfl rfl rfl)) ?_
  refine rg_nam (d := 6) (v := .pt 103 0) (m := 103) (nw := [(103, .bx 35 ([.fl (.string (⟨#[]⟩)), .fl (.int .i64 0), .fl (.string (⟨#[]⟩))]))]) rfl (og rfl (of_eff (s_alloc 103 rfl ti35 (by kernel_rfl) rfl) rfl)) rfl ?_
  refine rg_sto (nw := [(103, .bx 35 ((ePnt ((fN (vT t).net.pts s).1))))]) rfl (og rfl (of_eff (s_store rfl rfl ti35 rfl rfl rfl rfl rfl rfl) rfl)) ?_
  refine rg_put (d := 7) (v := .d (.fl (.bool ((fN (vT t).net.pts s).2)))) rfl (og rfl (op_assign rfl rfl rfl)) ?_
  refine rg_done rfl ?_
  refine a_rseq ?_
  refine rg_put (d := 16) (v := .d (.ag (eTpg (vT t)))) rfl (og rfl (of_eff (s_load_pts rfl Try.underlying28 rfl ti28 rfl rfl rfl rfl) rfl)) ?_
  refine rg_put (d := 17) (v := .pt 103 2) rfl (og rfl (of_eff (s_field_pt rfl Try.underlying35 rfl ti9 rfl rfl rfl) rfl)) ?_
  refine rg_put (d := 18) (v := .d (.fl (.string (((fN (vT t).net.pts s).1).sys)))) rfl (og rfl (op_load_pt rfl Try.underlying9 rfl rfl rfl rfl rfl)) ?_
  refine rg_put (d := 19) (v := .tu [.ag (eSys ((fS (vT t).syss (((fN (vT t).net.pts s).1).sys)).1)), .fl (.bool ((fS (vT t).syss (((fN (vT t).net.pts s).1).sys)).2))]) rfl (og rfl (op_call rfl Try.func28 nm28 rfl (.cons rfl (.d _) (.cons rfl (.d _) .nil)) (sstC (vT t) (((fN (vT t).net.pts s).1).sys) (by have := vT_sys t; omega)) rfl)) ?_
  refine rg_put (d := 20) (v := .d (.ag (eSys ((fS (vT t).syss (((fN (vT t).net.pts s).1).sys)).1)))) rfl (og rfl (op_extract rfl rfl rfl rfl)) ?_
  refine rg_put (d := 21) (v := .d (.fl (.bool ((fS (vT t).syss (((fN (vT t).net.pts s).1).sys)).2)))) rfl (og rfl (op_extract rfl rfl rfl rfl)) ?_
  refine rg_sto (nw := [(102, .bx 40 ((eSys ((fS (vT t).syss (((fN (vT t).net.pts s).1).sys)).1))))]) rfl (og rfl (of_eff (s_store rfl rfl ti40 rfl rfl rfl rfl rfl rfl) rfl)) ?_
  refine rg_put (d := 5) (v := .d (.fl (.bool ((fS (vT t).syss (((fN (vT t).net.pts s).1).sys)).2)))) rfl (og rfl (op_assign rfl rfl rfl)) ?_
  refine rg_done rfl ?_
  refine a_ret ?_
  show ∃ ds, ResL _ _ _ ds ∧ RV.of ds = _
  refine ⟨[.ag [.fl (.string (((fS (vT t).syss (((fN (vT t).net.pts s).1).sys)).1).name)), .fl (.bool (((fS (vT t).syss (((fN (vT t).net.pts s).1).sys)).1).closed)), .fl (.int .i64 (((fS (vT t).syss (((fN (vT t).net.pts s).1).sys)).1).most))], .fl (.bool ((fS (vT t).syss (((fN (vT t).net.pts s).1).sys)).2))], (.cons (.cellT rfl rfl Try.underlying40 rfl ti40 rfl (Cv.ag (xs := [.fl (.string (((fS (vT t).syss (((fN (vT t).net.pts s).1).sys)).1).name)), .fl (.bool (((fS (vT t).syss (((fN (vT t).net.pts s).1).sys)).1).closed)), .fl (.int .i64 (((fS (vT t).syss (((fN (vT t).net.pts s).1).sys)).1).most))]) (ys := [.fl (.string (((fS (vT t).syss (((fN (vT t).net.pts s).1).sys)).1).name)), .fl (.bool (((fS (vT t).syss (((fN (vT t).net.pts s).1).sys)).1).closed)), .fl (.int .i64 (((fS (vT t).syss (((fN (vT t).net.pts s).1).sys)).1).most))]) ⟨Cv.refl _, Cv.refl _, Cv.refl _, trivial⟩)) (.cons (.tmp rfl (.d _)) .nil)), ?_⟩
  rfl
set_option maxHeartbeats 4000000 in
set_option maxRecDepth 100000 in
theorem ptsC (t : Tpg) (s : ByteArray) (c : Int) : Ctr Try.prog 10 [.ag (eTpg t), .fl (.string s), .fl (.int .i64 c)] (.d (.sl 1 (List.map rS (srtS (pn (kn t) s c (kn t).length))))) := by
  refine ctr (n := 38) (rs := #[.tmp 6]) (L := [(0, .d (.ag (eTpg t))), (1, .d (.fl (.string s))), (2, .d (.fl (.int .i64 c)))]) Try.func10 rfl rfl rfl rfl rfl (fun w0 U0 => ?_)
  refine a_rseq ?_
  have hkl := kn_len t
  have hkd : (kn t).length = (vT t).net.pts.length := rfl
  refine rg_nam (d := 3) (v := .pt 101 0) (m := 101) (nw := [(101, .bx 28 (eTpg t))]) rfl (og rfl (of_eff (op_box 101 rfl rfl rfl rfl) rfl)) rfl ?_
  refine rg_put (d := 6) (v := .d (.fl (.slice none 0 0))) rfl (og rfl (op_assign rfl rfl rfl)) ?_
  refine rg_done rfl ?_
  refine a_rseq ?_
  refine rg_put (d := 7) (v := .d (.fl (.slice none 0 0))) rfl (og rfl (op_assign rfl rfl rfl)) ?_
  refine rg_done rfl ?_
  refine a_seq ?_
  refine a_rseq ?_
  refine rg_imp (imp_nilT 7 102 9 1 rfl rfl) ?_
  refine rg_put (d := 10) (v := .d (.ag (eTpg t))) rfl (og rfl (of_eff (s_load_pts rfl Try.underlying28 rfl ti28 rfl rfl rfl rfl) rfl)) ?_
  refine rg_put (d := 11) (v := .d (.ag (eTpg (vT t)))) rfl (og rfl (op_call rfl Try.func25 nm25 rfl (.cons rfl (.d _) .nil) (valid_c t) rfl)) ?_
  refine rg_put (d := 12) (v := .d (.ag (eNwk ((vT t).net)))) rfl (og rfl (of_eff (op_fieldV rfl Try.underlying28 rfl Try.underlying25 rfl ti25 rfl rfl rfl rfl) rfl)) ?_
  refine rg_put (d := 13) (v := .d (.sl 3 (List.map ePnt (((vT t).net).pts)))) rfl (og rfl (op_fieldC rfl Try.underlying25 rfl Try.underlying22 rfl rfl rfl rfl rfl)) ?_
  refine rg_put (d := 14) (v := .d (.fl (.int .i64 (((((vT t).net).pts).length : Int))))) rfl (og rfl (s_len rfl Try.underlying22 rfl rfl)) ?_
  refine rg_put (d := 15) (v := .d (.fl (.int .i64 0))) rfl (og rfl (op_move rfl rfl rfl)) ?_
  refine rg_done rfl ?_
  refine a_block ?_
  refine a_loop (ι := Nat) (fun k => SS [(0, .d (.ag (eTpg t))), (1, .d (.fl (.string s))), (2, .d (.fl (.int .i64 c))), (3, .pt 101 0), (6, .d (.fl (.slice none 0 0))), (13, .d (.sl 3 (List.map ePnt (((vT t).net).pts)))), (14, .d (.fl (.int .i64 (((((vT t).net).pts).length : Int))))), (15, .d (.fl (.int .i64 (k : Int)))), (7, .ow 102)] [(101, .bx 28 (eTpg t)), (102, .tr 9 1 (tD rS ((pn (kn t) s c k))))]) (fun k => k ≤ (kn t).length) (fun k => (kn t).length - k) 0 (by omega) (imp_forget rfl ⟨rfl, rfl, rfl, rfl, rfl, rfl, rfl, (by first | rfl | exact ci (by omega) | exact ci (by simp) | exact cd (by simp) | simp), (by first | rfl | exact ci (by omega) | exact ci (by simp) | exact cd (by simp) | simp), trivial⟩ ⟨rfl, rfl, trivial⟩) (fun k hok => ?_)
  have hk := hok
  have hpl := pn_len (kn t) s c k
  refine a_rseq ?_
  refine rg_put (d := 16) (v := .d (.fl (.bool ((decide ((k : Int) < ((((vT t).net).pts).length : Int))))))) rfl (og rfl (op_bin rfl rfl rfl (b_lss _ _ _ _) rfl)) ?_
  refine rg_done rfl ?_
  refine a_seq ?_
  refine a_cond rfl (fun h1 => ?_) (fun h1 => ?_)
  · skip
    have h2 := t_dec h1
    refine a_skip ?_
    show A _ _ _ _ _ _ _
    refine a_seq ?_
    refine a_block ?_
    refine a_rseq ?_
    refine rg_put (d := 17) (v := .el ((ePnt ((ix (((vT t).net).pts) k))))) rfl (og rfl (s_index rfl Try.underlying22 ti35 rfl rfl (by omega) (row_at (by omega)) rfl)) ?_
    refine rg_put (d := 18) (v := .d (.ag (ePnt (((ix (((vT t).net).pts) k)))))) rfl (og rfl (of_eff (s_load_els rfl Try.underlying35 rfl ti35 rfl rfl rfl) rfl)) ?_
    refine rg_nam (d := 9) (v := .pt 103 0) (m := 103) (nw := [(103, .bx 35 ([.fl (.string (⟨#[]⟩)), .fl (.int .i64 0), .fl (.string (⟨#[]⟩))]))]) rfl (og rfl (of_eff (s_alloc 103 rfl ti35 (by kernel_rfl) rfl) rfl)) rfl ?_
    refine rg_sto (nw := [(103, .bx 35 ((ePnt (((ix (((vT t).net).pts) k))))))]) rfl (og rfl (of_eff (s_store rfl rfl ti35 rfl rfl rfl rfl rfl rfl) rfl)) ?_
    refine rg_done rfl ?_
    refine a_rseq ?_
    have hk1 : k < (kn t).length := by omega
    refine rg_put (d := 19) (v := .pt 103 2) rfl (og rfl (of_eff (s_field_pt rfl Try.underlying35 rfl ti9 rfl rfl rfl) rfl)) ?_
    refine rg_put (d := 20) (v := .d (.fl (.string ((((ix (((vT t).net).pts) k))).sys)))) rfl (og rfl (op_load_pt rfl Try.underlying9 rfl rfl rfl rfl rfl)) ?_
    refine rg_put (d := 21) (v := .d (.fl (.string s))) rfl (og rfl (op_move rfl rfl rfl)) ?_
    refine rg_put (d := 22) (v := .d (.fl (.bool ((sEq ((((ix (((vT t).net).pts) k))).sys) s))))) rfl (og rfl (op_bin rfl rfl rfl (b_seq _ _ _) rfl)) ?_
    refine rg_put (d := 23) (v := .d (.fl (.bool ((sEq ((((ix (((vT t).net).pts) k))).sys) s))))) rfl (og rfl (op_move rfl rfl rfl)) ?_
    rcases fot ((sEq ((((ix (((vT t).net).pts) k))).sys) s)) with h3 | h3
    · skip
      refine rg_put (d := 24) (v := .d (.fl undef)) rfl (on rfl rfl rfl h3) ?_
      refine rg_put (d := 25) (v := .d (.fl undef)) rfl (on rfl rfl rfl h3) ?_
      refine rg_put (d := 26) (v := .d (.fl undef)) rfl (on rfl rfl rfl h3) ?_
      refine rg_put (d := 27) (v := .d (.fl undef)) rfl (on rfl rfl rfl h3) ?_
      refine rg_put (d := 28) (v := .d (.fl (.bool false))) rfl (og rfl (op_pick rfl rfl (by rw [h3]; rfl) rfl)) ?_
      refine rg_done rfl ?_
      refine a_condF rfl rfl ?_
      refine a_skip ?_
      show A _ _ _ _ _ _ _
      refine a_region ?_
      refine rg_put (d := 34) (v := .d (.fl (.int .i64 (((k : Int) + 1))))) rfl (og rfl (op_bin rfl rfl rfl (fun x y w => b_add64 _ _ _ x y w (by omega)) rfl)) ?_
      refine rg_put (d := 15) (v := .d (.fl (.int .i64 (((k : Int) + 1))))) rfl (og rfl (op_move rfl rfl rfl)) ?_
      refine rg_done rfl ?_
      have hst : (pn (kn t) s c k) = pn (kn t) s c (k + 1) := pn_n hk1 (by show (sEq (ix (vT t).net.pts k).sys s && ((ix (vT t).net.pts k).kind == c)) = false; rw [h3]; rfl)
      show ∃ i, _ ∧ _ ∧ Imp _ _ _ _ _
      refine ⟨k + 1, (by omega), by omega, imp_forget rfl ⟨rfl, rfl, rfl, rfl, rfl, rfl, rfl, (by first | rfl | exact ci (by omega) | exact ci (by simp) | exact cd (by simp) | simp), rfl, trivial⟩ ⟨rfl, (congrArg (fun z => Ob.tr 9 1 (tD rS z)) hst), trivial⟩⟩
    · skip
      refine rg_put (d := 24) (v := .pt 103 1) rfl (oy rfl rfl rfl h3 (of_eff (s_field_pt rfl Try.underlying35 rfl ti3 rfl rfl rfl) rfl)) ?_
      refine rg_put (d := 25) (v := .d (.fl (.int .i64 ((((ix (((vT t).net).pts) k))).kind)))) rfl (oy rfl rfl rfl h3 (op_load_pt rfl Try.underlying3 rfl rfl rfl rfl rfl)) ?_
      refine rg_put (d := 26) (v := .d (.fl (.int .i64 c))) rfl (oy rfl rfl rfl h3 (op_move rfl rfl rfl)) ?_
      refine rg_put (d := 27) (v := .d (.fl (.bool (((((ix (((vT t).net).pts) k))).kind == c))))) rfl (oy rfl rfl rfl h3 (op_bin rfl rfl rfl (b_eql _ _ _ _) rfl)) ?_
      refine rg_put (d := 28) (v := .d (.fl (.bool (((((ix (((vT t).net).pts) k))).kind == c))))) rfl (og rfl (op_pick rfl rfl (by rw [h3]; rfl) rfl)) ?_
      refine rg_done rfl ?_
      refine a_cond rfl (fun h4 => ?_) (fun h4 => ?_)
      · skip
        have h5 := t_beq h4
        refine a_region ?_
        refine rg_put (d := 29) (v := .ow 102) rfl (og rfl (op_move rfl rfl rfl)) ?_
        refine rg_put (d := 30) (v := .pt 103 0) rfl (og rfl (of_eff (s_field_pt rfl Try.underlying35 rfl ti9 rfl rfl rfl) rfl)) ?_
        refine rg_put (d := 31) (v := .d (.fl (.string ((((ix (((vT t).net).pts) k))).name)))) rfl (og rfl (op_load_pt rfl Try.underlying9 rfl rfl rfl rfl rfl)) ?_
        refine rg_put (d := 32) (v := .d (.sl 1 (List.map rS [(((ix (((vT t).net).pts) k))).name]))) rfl (og rfl (of_eff (op_slices rfl Try.underlying37 ti9 rfl rfl rfl (by kernel_rfl) (xs := [.fl (.string ((((ix (((vT t).net).pts) k))).name))]) rfl rfl (.cons rfl rfl (.d _) rfl rfl rfl .nil) rfl) rfl)) ?_
        refine rg_nam (d := 33) (v := .ow 104) (m := 104) (nw := [(104, .tr 9 1 (tD rS (((pn (kn t) s c k) ++ [(((ix (((vT t).net).pts) k))).name])))), (102, .no)]) rfl (og rfl (of_eff (s_append_td 104 rfl Try.underlying37 ti9 rfl rfl rfl rfl rfl (.d _) (by simp only [List.length_append, List.length_cons, List.length_nil]; omega) rfl) rfl)) rfl ?_
        refine rg_put (d := 7) (v := .ow 104) rfl (og rfl (op_assign rfl rfl rfl)) ?_
        refine rg_done rfl ?_
        show A _ _ _ _ _ _ _
        refine a_region ?_
        refine rg_put (d := 34) (v := .d (.fl (.int .i64 (((k : Int) + 1))))) rfl (og rfl (op_bin rfl rfl rfl (fun x y w => b_add64 _ _ _ x y w (by omega)) rfl)) ?_
        refine rg_put (d := 15) (v := .d (.fl (.int .i64 (((k : Int) + 1))))) rfl (og rfl (op_move rfl rfl rfl)) ?_
        refine rg_done rfl ?_
        have hst : ((pn (kn t) s c k) ++ [(((ix (((vT t).net).pts) k))).name]) = pn (kn t) s c (k + 1) := pn_y hk1 (by show (sEq (ix (vT t).net.pts k).sys s && ((ix (vT t).net.pts k).kind == c)) = true; rw [h3, h4]; rfl)
        show ∃ i, _ ∧ _ ∧ Imp _ _ _ _ _
        refine ⟨k + 1, (by omega), by omega, imp_ren (fun m => bif Nat.beq m 102 then 104 else m) rfl ⟨rfl, rfl, rfl, rfl, rfl, rfl, rfl, (by first | rfl | exact ci (by omega) | exact ci (by simp) | exact cd (by simp) | simp), rfl, trivial⟩ ⟨rfl, (congrArg (fun z => Ob.tr 9 1 (tD rS z)) hst), trivial⟩⟩
      · skip
        have h6 := f_beq h4
        refine a_skip ?_
        show A _ _ _ _ _ _ _
        refine a_region ?_
        refine rg_put (d := 34) (v := .d (.fl (.int .i64 (((k : Int) + 1))))) rfl (og rfl (op_bin rfl rfl rfl (fun x y w => b_add64 _ _ _ x y w (by omega)) rfl)) ?_
        refine rg_put (d := 15) (v := .d (.fl (.int .i64 (((k : Int) + 1))))) rfl (og rfl (op_move rfl rfl rfl)) ?_
        refine rg_done rfl ?_
        have hst : (pn (kn t) s c k) = pn (kn t) s c (k + 1) := pn_n hk1 (by show (sEq (ix (vT t).net.pts k).sys s && ((ix (vT t).net.pts k).kind == c)) = false; rw [h3, h4]; rfl)
        show ∃ i, _ ∧ _ ∧ Imp _ _ _ _ _
        refine ⟨k + 1, (by omega), by omega, imp_forget rfl ⟨rfl, rfl, rfl, rfl, rfl, rfl, rfl, (by first | rfl | exact ci (by omega) | exact ci (by simp) | exact cd (by simp) | simp), rfl, trivial⟩ ⟨rfl, (congrArg (fun z => Ob.tr 9 1 (tD rS z)) hst), trivial⟩⟩
  · skip
    have h7 := f_dec h1
    refine a_exit ?_
    show A _ _ _ _ _ _ _
    refine a_rseq ?_
    have hke : k = (kn t).length := by omega
    rw [show (pn (kn t) s c k) = (pn (kn t) s c (kn t).length) from (by rw [hke])]
    have hpl := pn_len (kn t) s c (kn t).length
    refine rg_put (d := 35) (v := .ow 102) rfl (og rfl (op_move rfl rfl rfl)) ?_
    refine rg_sortP (gα := rS) (fα := (fun s : ByteArray => Value.string s)) (sr := srtS) (l := (pn (kn t) s c (kn t).length)) rfl rfl rfl rfl (by rfl) Try.func26 nm26 rfl rfl rfl (fun _ => rfl) (fun _ => rfl) sortStr srtS_len (by omega) ?_
    refine rg_done rfl ?_
    refine a_rseq ?_
    refine rg_put (d := 37) (v := .ow 102) rfl (og rfl (op_move rfl rfl rfl)) ?_
    refine rg_put (d := 6) (v := .ow 102) rfl (og rfl (op_assign rfl rfl rfl)) ?_
    refine rg_done rfl ?_
    refine a_imp (imp_leakT 6 102 rfl rfl) ?_
    refine a_ret ?_
    show ∃ ds, ResL _ _ _ ds ∧ RV.of ds = _
    refine ⟨[.sl 1 (List.map rS ((srtS ((pn (kn t) s c (kn t).length)))))], (.cons (.tmp rfl (.d _)) .nil), ?_⟩
    rfl
set_option maxHeartbeats 4000000 in
set_option maxRecDepth 100000 in
theorem hasC (l : List ByteArray) (s : ByteArray) (hl : l.length ≤ 1000) : Ctr Try.prog 9 [.sl 1 (List.map rS l), .fl (.string s)] (.d (.fl (.bool (hasT l s)))) := by
  refine ctr (n := 18) (rs := #[.tmp 4]) (L := [(0, .d (.sl 1 (List.map rS l))), (1, .d (.fl (.string s)))]) Try.func9 rfl rfl rfl rfl rfl (fun w0 U0 => ?_)
  refine a_rseq ?_
  refine rg_put (d := 4) (v := .d (.fl (.bool false))) rfl (og rfl (op_assign rfl rfl rfl)) ?_
  refine rg_done rfl ?_
  refine a_seq ?_
  refine a_rseq ?_
  refine rg_put (d := 5) (v := .d (.fl (.int .i64 0))) rfl (og rfl (op_assign rfl rfl rfl)) ?_
  refine rg_done rfl ?_
  refine a_block ?_
  refine a_loop (ι := Nat) (fun k => SS [(0, .d (.sl 1 (List.map rS l))), (1, .d (.fl (.string s))), (5, .d (.fl (.int .i64 (k : Int))))] []) (fun k => k ≤ l.length ∧ ∀ q, q < k → (sEq (ix l q) s) = false) (fun k => l.length - k) 0 (⟨by omega, fun q h => by omega⟩) (imp_forget rfl ⟨rfl, rfl, (by first | rfl | exact ci (by omega) | exact ci (by simp) | exact cd (by simp) | simp), trivial⟩ trivial) (fun k hok => ?_)
  obtain ⟨hkk, hq⟩ := hok
  refine a_seq ?_
  refine a_rseq ?_
  refine rg_put (d := 6) (v := .d (.fl (.int .i64 (k : Int)))) rfl (og rfl (op_move rfl rfl rfl)) ?_
  refine rg_put (d := 7) (v := .d (.sl 1 (List.map rS l))) rfl (og rfl (op_move rfl rfl rfl)) ?_
  refine rg_put (d := 8) (v := .d (.fl (.int .i64 (l.length : Int)))) rfl (og rfl (s_len rfl Try.underlying37 rfl rfl)) ?_
  refine rg_put (d := 9) (v := .d (.fl (.bool ((decide ((k : Int) < (l.length : Int))))))) rfl (og rfl (op_bin rfl rfl rfl (b_lss _ _ _ _) rfl)) ?_
  refine rg_done rfl ?_
  refine a_cond rfl (fun h1 => ?_) (fun h1 => ?_)
  · skip
    have h2 := t_dec h1
    refine a_skip ?_
    show A _ _ _ _ _ _ _
    refine a_seq ?_
    refine a_block ?_
    refine a_rseq ?_
    refine rg_put (d := 12) (v := .d (.sl 1 (List.map rS l))) rfl (og rfl (op_move rfl rfl rfl)) ?_
    refine rg_put (d := 13) (v := .d (.fl (.int .i64 (k : Int)))) rfl (og rfl (op_move rfl rfl rfl)) ?_
    refine rg_put (d := 14) (v := .el ((rS (ix l k)))) rfl (og rfl (s_index rfl Try.underlying37 ti9 rfl rfl (by omega) (row_at (by omega)) rfl)) ?_
    refine rg_put (d := 15) (v := .d (.fl (.string (ix l k)))) rfl (og rfl (op_load_el rfl Try.underlying9 rfl rfl rfl rfl)) ?_
    refine rg_put (d := 16) (v := .d (.fl (.string s))) rfl (og rfl (op_move rfl rfl rfl)) ?_
    refine rg_put (d := 17) (v := .d (.fl (.bool ((sEq (ix l k) s))))) rfl (og rfl (op_bin rfl rfl rfl (b_seq _ _ _) rfl)) ?_
    refine rg_done rfl ?_
    refine a_cond rfl (fun h3 => ?_) (fun h3 => ?_)
    · skip
      refine a_rseq ?_
      refine rg_put (d := 4) (v := .d (.fl (.bool true))) rfl (og rfl (op_assign rfl rfl rfl)) ?_
      refine rg_done rfl ?_
      refine a_ret ?_
      show ∃ ds, ResL _ _ _ ds ∧ RV.of ds = _
      refine ⟨[.fl (.bool true)], (.cons (.tmp rfl (.d _)) .nil), ?_⟩
      rw [hasT_y (by omega) h3]; rfl
    · skip
      refine a_skip ?_
      show A _ _ _ _ _ _ _
      refine a_region ?_
      refine rg_put (d := 10) (v := .d (.fl (.int .i64 (k : Int)))) rfl (og rfl (op_move rfl rfl rfl)) ?_
      refine rg_put (d := 11) (v := .d (.fl (.int .i64 (((k : Int) + 1))))) rfl (og rfl (op_bin rfl rfl rfl (fun x y w => b_add64 _ _ _ x y w (by omega)) rfl)) ?_
      refine rg_put (d := 5) (v := .d (.fl (.int .i64 (((k : Int) + 1))))) rfl (og rfl (op_assign rfl rfl rfl)) ?_
      refine rg_done rfl ?_
      have hx : (sEq (ix l k) s) = false := h3
      show ∃ i, _ ∧ _ ∧ Imp _ _ _ _ _
      refine ⟨k + 1, ⟨by omega, fun q h => (Nat.lt_succ_iff_lt_or_eq.1 h).elim (hq q) (fun e => by rw [e]; exact hx)⟩, by omega, imp_forget rfl ⟨rfl, rfl, (by first | rfl | exact ci (by omega) | exact ci (by simp) | exact cd (by simp) | simp), trivial⟩ trivial⟩
  · skip
    have h4 := f_dec h1
    refine a_exit ?_
    show A _ _ _ _ _ _ _
    refine a_rseq ?_
    refine rg_put (d := 4) (v := .d (.fl (.bool false))) rfl (og rfl (op_assign rfl rfl rfl)) ?_
    refine rg_done rfl ?_
    refine a_ret ?_
    show ∃ ds, ResL _ _ _ ds ∧ RV.of ds = _
    refine ⟨[.fl (.bool false)], (.cons (.tmp rfl (.d _)) .nil), ?_⟩
    rw [hasT_n (fun q h => hq q (by omega))]; rfl
def smlT (t : Tpg) : Bool := (decide ((t.net.pts.length : Int) ≤ 12) && decide ((t.net.lks.length : Int) ≤ 30)) && decide ((t.syss.length : Int) ≤ 100)
theorem smlT_t {t : Tpg} (h : smlT t = true) : t.net.pts.length ≤ 12 ∧ t.syss.length ≤ 100 := by
  unfold smlT at h
  simp only [Bool.and_eq_true, decide_eq_true_eq] at h
  omega
set_option maxHeartbeats 4000000 in
set_option maxRecDepth 100000 in
theorem smlC (t : Tpg) : Ctr Try.prog 5 [.ag (eTpg t)] (.d (.fl (.bool (smlT t)))) := by
  refine ctr (n := 21) (rs := #[.tmp 2]) (L := [(0, .d (.ag (eTpg t)))]) Try.func5 rfl rfl rfl rfl rfl (fun w0 U0 => ?_)
  refine a_rseq ?_
  refine rg_nam (d := 1) (v := .pt 101 0) (m := 101) (nw := [(101, .bx 28 (eTpg t))]) rfl (og rfl (of_eff (op_box 101 rfl rfl rfl rfl) rfl)) rfl ?_
  refine rg_put (d := 2) (v := .d (.fl (.bool false))) rfl (og rfl (op_assign rfl rfl rfl)) ?_
  refine rg_done rfl ?_
  refine a_rseq ?_
  refine rg_put (d := 3) (v := .pt 101 0) rfl (og rfl (of_eff (s_field_pt rfl Try.underlying28 rfl ti25 rfl rfl rfl) rfl)) ?_
  refine rg_put (d := 4) (v := .pt 101 0) rfl (og rfl (of_eff (s_field_pt rfl Try.underlying25 rfl ti22 rfl rfl rfl) rfl)) ?_
  refine rg_put (d := 5) (v := .d (.sl 3 (List.map ePnt t.net.pts))) rfl (og rfl (op_load_pt rfl Try.underlying22 rfl rfl rfl rfl rfl)) ?_
  refine rg_put (d := 6) (v := .d (.fl (.int .i64 (t.net.pts.length : Int)))) rfl (og rfl (s_len rfl Try.underlying22 rfl rfl)) ?_
  refine rg_put (d := 7) (v := .d (.fl (.bool ((decide ((t.net.pts.length : Int) ≤ 12)))))) rfl (og rfl (op_bin rfl rfl rfl (b_leq _ _ _ _) rfl)) ?_
  refine rg_put (d := 8) (v := .d (.fl (.bool ((decide ((t.net.pts.length : Int) ≤ 12)))))) rfl (og rfl (op_move rfl rfl rfl)) ?_
  rcases fot ((decide ((t.net.pts.length : Int) ≤ 12))) with h1 | h1
  · skip
    have h2 := f_dec h1
    refine rg_put (d := 9) (v := .d (.fl undef)) rfl (on rfl rfl rfl h1) ?_
    refine rg_put (d := 10) (v := .d (.fl undef)) rfl (on rfl rfl rfl h1) ?_
    refine rg_put (d := 11) (v := .d (.fl undef)) rfl (on rfl rfl rfl h1) ?_
    refine rg_put (d := 12) (v := .d (.fl undef)) rfl (on rfl rfl rfl h1) ?_
    refine rg_put (d := 13) (v := .d (.fl undef)) rfl (on rfl rfl rfl h1) ?_
    refine rg_put (d := 14) (v := .d (.fl (.bool false))) rfl (og rfl (op_pick rfl rfl (by rw [h1]; rfl) rfl)) ?_
    refine rg_put (d := 15) (v := .d (.fl (.bool false))) rfl (og rfl (op_move rfl rfl rfl)) ?_
    refine rg_put (d := 16) (v := .d (.fl undef)) rfl (on rfl rfl rfl rfl) ?_
    refine rg_put (d := 17) (v := .d (.fl undef)) rfl (on rfl rfl rfl rfl) ?_
    refine rg_put (d := 18) (v := .d (.fl undef)) rfl (on rfl rfl rfl rfl) ?_
    refine rg_put (d := 19) (v := .d (.fl undef)) rfl (on rfl rfl rfl rfl) ?_
    refine rg_put (d := 20) (v := .d (.fl (.bool false))) rfl (og rfl (op_pick rfl rfl rfl rfl)) ?_
    refine rg_put (d := 2) (v := .d (.fl (.bool false))) rfl (og rfl (op_assign rfl rfl rfl)) ?_
    refine rg_done rfl ?_
    refine a_ret ?_
    show ∃ ds, ResL _ _ _ ds ∧ RV.of ds = _
    refine ⟨[.fl (.bool false)], (.cons (.tmp rfl (.d _)) .nil), ?_⟩
    have hu : smlT t = false := by unfold smlT; simp only [h1, Bool.true_or, Bool.false_or, Bool.or_true, Bool.or_false, Bool.not_true, Bool.not_false, cond_true, cond_false, Bool.true_and, Bool.false_and, Bool.and_true, Bool.and_false] <;> rfl
    rw [hu]; rfl
  · skip
    have h3 := t_dec h1
    refine rg_put (d := 9) (v := .pt 101 0) rfl (oy rfl rfl rfl h1 (of_eff (s_field_pt rfl Try.underlying28 rfl ti25 rfl rfl rfl) rfl)) ?_
    refine rg_put (d := 10) (v := .pt 101 1) rfl (oy rfl rfl rfl h1 (of_eff (s_field_pt rfl Try.underlying25 rfl ti23 rfl rfl rfl) rfl)) ?_
    refine rg_put (d := 11) (v := .d (.sl 4 (List.map eLnk t.net.lks))) rfl (oy rfl rfl rfl h1 (op_load_pt rfl Try.underlying23 rfl rfl rfl rfl rfl)) ?_
    refine rg_put (d := 12) (v := .d (.fl (.int .i64 (t.net.lks.length : Int)))) rfl (oy rfl rfl rfl h1 (s_len rfl Try.underlying23 rfl rfl)) ?_
    refine rg_put (d := 13) (v := .d (.fl (.bool ((decide ((t.net.lks.length : Int) ≤ 30)))))) rfl (oy rfl rfl rfl h1 (op_bin rfl rfl rfl (b_leq _ _ _ _) rfl)) ?_
    refine rg_put (d := 14) (v := .d (.fl (.bool ((decide ((t.net.lks.length : Int) ≤ 30)))))) rfl (og rfl (op_pick rfl rfl (by rw [h1]; rfl) rfl)) ?_
    refine rg_put (d := 15) (v := .d (.fl (.bool ((decide ((t.net.lks.length : Int) ≤ 30)))))) rfl (og rfl (op_move rfl rfl rfl)) ?_
    rcases fot ((decide ((t.net.lks.length : Int) ≤ 30))) with h4 | h4
    · skip
      have h5 := f_dec h4
      refine rg_put (d := 16) (v := .d (.fl undef)) rfl (on rfl rfl rfl h4) ?_
      refine rg_put (d := 17) (v := .d (.fl undef)) rfl (on rfl rfl rfl h4) ?_
      refine rg_put (d := 18) (v := .d (.fl undef)) rfl (on rfl rfl rfl h4) ?_
      refine rg_put (d := 19) (v := .d (.fl undef)) rfl (on rfl rfl rfl h4) ?_
      refine rg_put (d := 20) (v := .d (.fl (.bool false))) rfl (og rfl (op_pick rfl rfl (by rw [h4]; rfl) rfl)) ?_
      refine rg_put (d := 2) (v := .d (.fl (.bool false))) rfl (og rfl (op_assign rfl rfl rfl)) ?_
      refine rg_done rfl ?_
      refine a_ret ?_
      show ∃ ds, ResL _ _ _ ds ∧ RV.of ds = _
      refine ⟨[.fl (.bool false)], (.cons (.tmp rfl (.d _)) .nil), ?_⟩
      have hu : smlT t = false := by unfold smlT; simp only [h1, h4, Bool.true_or, Bool.false_or, Bool.or_true, Bool.or_false, Bool.not_true, Bool.not_false, cond_true, cond_false, Bool.true_and, Bool.false_and, Bool.and_true, Bool.and_false] <;> rfl
      rw [hu]; rfl
    · skip
      have h6 := t_dec h4
      refine rg_put (d := 16) (v := .pt 101 2) rfl (oy rfl rfl rfl h4 (of_eff (s_field_pt rfl Try.underlying28 rfl ti26 rfl rfl rfl) rfl)) ?_
      refine rg_put (d := 17) (v := .d (.sl 3 (List.map eSys t.syss))) rfl (oy rfl rfl rfl h4 (op_load_pt rfl Try.underlying26 rfl rfl rfl rfl rfl)) ?_
      refine rg_put (d := 18) (v := .d (.fl (.int .i64 (t.syss.length : Int)))) rfl (oy rfl rfl rfl h4 (s_len rfl Try.underlying26 rfl rfl)) ?_
      refine rg_put (d := 19) (v := .d (.fl (.bool ((decide ((t.syss.length : Int) ≤ 100)))))) rfl (oy rfl rfl rfl h4 (op_bin rfl rfl rfl (b_leq _ _ _ _) rfl)) ?_
      refine rg_put (d := 20) (v := .d (.fl (.bool ((decide ((t.syss.length : Int) ≤ 100)))))) rfl (og rfl (op_pick rfl rfl (by rw [h4]; rfl) rfl)) ?_
      refine rg_put (d := 2) (v := .d (.fl (.bool ((decide ((t.syss.length : Int) ≤ 100)))))) rfl (og rfl (op_assign rfl rfl rfl)) ?_
      refine rg_done rfl ?_
      refine a_ret ?_
      show ∃ ds, ResL _ _ _ ds ∧ RV.of ds = _
      refine ⟨[.fl (.bool ((decide ((t.syss.length : Int) ≤ 100))))], (.cons (.tmp rfl (.d _)) .nil), ?_⟩
      have hu : smlT t = (decide ((t.syss.length : Int) ≤ 100)) := by unfold smlT; simp only [h1, h4, Bool.true_or, Bool.false_or, Bool.or_true, Bool.or_false, Bool.not_true, Bool.not_false, cond_true, cond_false, Bool.true_and, Bool.false_and, Bool.and_true, Bool.and_false] <;> rfl
      rw [hu]; rfl
end Go.Proofs.Ytjbhikldmaljaaa.Wk
