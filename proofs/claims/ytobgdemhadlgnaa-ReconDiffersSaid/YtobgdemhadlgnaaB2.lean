/- Differences, the mathematics. No condition. -/
import Derived.Test.YtobgdemhadlgnaaB1
set_option linter.unusedSimpArgs false
set_option linter.unusedVariables false
namespace Go.Proofs.Ytobgdemhadlgnaa.Wk
open Go Go.RowKit Go.Sort Go.Shelf Go.Lib Go.Proofs.Ytobgdemhadlgnaa.Av
theorem ix_map {α β : Type} [Inhabited α] [Inhabited β] {f : α → β} {l : List α} {k : Nat} (h : k < l.length) : ix (l.map f) k = f (ix l k) := by
  rw [← ix_eq (show k < (l.map f).length by simpa using h), ← ix_eq h, List.getElem_map]
def kS (l : List Rec) : List ByteArray := srtS (fk l l.length)
theorem kS_nd (l : List Rec) : (kS l).Nodup := (srtS_perm _).symm.nodup (fk_nd _ _)
theorem netL_len (l : List Rec) : (netL l).length = (kS l).length := by unfold netL kS; rw [List.length_map]
theorem netL_ix {l : List Rec} {k : Nat} (h : k < (netL l).length) : ix (netL l) k = gR l l.length (ix (kS l) k) := by
  rw [netL_len] at h; exact ix_map h
theorem fk_mem {l : List Rec} {x : ByteArray} : ∀ {k}, x ∈ fk l k ↔ ∃ q, q < k ∧ (ix l q).key = x
  | 0 => ⟨fun h => (by cases h), fun ⟨q, h, _⟩ => by omega⟩
  | k + 1 => by
    show x ∈ adS (fk l k) (ix l k).key ↔ _
    rw [adS_mem, fk_mem (k := k)]
    constructor
    · rintro (⟨q, h1, h2⟩ | h)
      · exact ⟨q, by omega, h2⟩
      · exact ⟨k, by omega, h.symm⟩
    · rintro ⟨q, h1, h2⟩
      by_cases hq : q = k
      · subst hq; exact .inr h2.symm
      · exact .inl ⟨q, by omega, h2⟩
theorem fk_all {l : List Rec} {x : ByteArray} : x ∈ fk l l.length ↔ ∃ r ∈ l, r.key = x := by
  rw [fk_mem]
  constructor
  · rintro ⟨q, h, e⟩; exact ⟨_, ix_mem h, e⟩
  · rintro ⟨r, hr, e⟩; obtain ⟨q, h, rfl⟩ := mem_ix hr; exact ⟨q, h, e⟩
theorem kS_mem {l : List Rec} {x : ByteArray} : x ∈ kS l ↔ ∃ r ∈ l, r.key = x := by
  rw [← fk_all]; exact (srtS_perm _).mem_iff
def enT (v : ByteArray → DV) (u : List ByteArray) : List (Value × DV) := u.map fun s => (Value.string s, v s)
theorem enT_app (v : ByteArray → DV) (u w : List ByteArray) : enT v (u ++ w) = enT v u ++ enT v w := List.map_append ..
theorem mfindT (v : ByteArray → DV) (u : List ByteArray) (p : ByteArray) : mfind .string (.string p) (enT v u) = some (bif u.any (fun y => sEq y p) then some (v p) else none) := by
  have h0 := mfind_mapS (fun x : ByteArray => x) v p u
  refine Eq.trans h0 ?_
  congr 1
  cases h : u.any (fun y => sEq y p) with
  | false =>
    have : u.find? (fun y => sEq y p) = none := List.find?_eq_none.2 (fun x hx => List.any_eq_false.1 h x hx)
    rw [this]; rfl
  | true =>
    cases hf : u.find? (fun y => sEq y p) with
    | none => exact absurd h (by rw [Bool.not_eq_true, List.any_eq_false]; exact List.find?_eq_none.1 hf)
    | some y => have := List.find?_some hf; rw [← sEq_eq this]; rfl
theorem any_mem {u : List ByteArray} {p : ByteArray} : u.any (fun y => sEq y p) = true ↔ p ∈ u := by
  rw [List.any_eq_true]
  constructor
  · rintro ⟨y, hy, he⟩; rw [← sEq_eq he]; exact hy
  · intro h; exact ⟨p, h, by simp [sEq]⟩
theorem any_non {u : List ByteArray} {p : ByteArray} (h : p ∉ u) : u.any (fun y => sEq y p) = false := by
  cases hc : u.any (fun y => sEq y p) with
  | false => rfl
  | true => exact absurd (any_mem.1 hc) h
theorem take_nin {u : List ByteArray} (hn : u.Nodup) {k : Nat} (h : k < u.length) : ix u k ∉ u.take k := by
  intro hm
  obtain ⟨q, hq, he⟩ := mem_ix hm
  rw [List.length_take] at hq
  have e2 : ix (u.take k) q = ix u q := by
    rw [← ix_eq (show q < (u.take k).length by rw [List.length_take]; exact hq), ← ix_eq (show q < u.length by omega), List.getElem_take]
  rw [e2, ← ix_eq (show q < u.length by omega), ← ix_eq h] at he
  have := (List.getElem_inj (h₀ := by omega) (h₁ := h) hn).1 he
  omega
def vA (A : List Rec) (s : ByteArray) : DV := .ag (eDfr ⟨s, am A s A.length, 0⟩)
def thB (B : List Rec) (k : Nat) (s : ByteArray) : Int := bif ((kS B).take k).any (fun y => sEq y s) then am B s B.length else 0
def gD (A B : List Rec) (k : Nat) (s : ByteArray) : Dfr := ⟨s, am A s A.length, thB B k s⟩
def vD (A B : List Rec) (k : Nat) (s : ByteArray) : DV := .ag (eDfr (gD A B k s))
def k2 (A B : List Rec) : Nat → List ByteArray
  | 0 => kS A
  | k + 1 => adS (k2 A B k) (ix (kS B) k)
theorem k2_nd (A B : List Rec) : ∀ k, (k2 A B k).Nodup
  | 0 => kS_nd A
  | k + 1 => adS_nd (k2_nd A B k)
theorem k2_sub {A B : List Rec} {x : ByteArray} (h : x ∈ kS A) : ∀ k, x ∈ k2 A B k
  | 0 => h
  | k + 1 => adS_mem.2 (.inl (k2_sub h k))
theorem k2_mem {A B : List Rec} {x : ByteArray} : ∀ k, k ≤ (kS B).length → (x ∈ k2 A B k ↔ x ∈ kS A ∨ x ∈ (kS B).take k)
  | 0, _ => by rw [List.take_zero]; exact ⟨.inl, fun h => h.elim id (fun h => (by cases h))⟩
  | k + 1, h => by
    rw [show k2 A B (k + 1) = adS (k2 A B k) (ix (kS B) k) from rfl, adS_mem, k2_mem k (by omega), take_ix (by omega), List.mem_append, List.mem_singleton, or_assoc]
theorem k2_len (A B : List Rec) : ∀ k, (k2 A B k).length ≤ (kS A).length + k
  | 0 => Nat.le_refl _
  | k + 1 => by have := k2_len A B k; have := adS_len (k2 A B k) (ix (kS B) k); show (adS _ _).length ≤ _; omega
theorem e1_step {A : List Rec} {k : Nat} (h : k < (netL A).length) : enT (vA A) ((kS A).take k) ++ [(Value.string (ix (netL A) k).key, DV.ag (eDfr ⟨(ix (netL A) k).key, (ix (netL A) k).cents, 0⟩))] = enT (vA A) ((kS A).take (k + 1)) := by
  rw [netL_ix h]
  rw [netL_len] at h
  rw [take_ix h, enT_app]; rfl
theorem e1_no {A : List Rec} {k : Nat} (h : k < (netL A).length) : mfind .string (.string (ix (netL A) k).key) (enT (vA A) ((kS A).take k)) = some none := by
  rw [netL_ix h, mfindT]
  rw [netL_len] at h
  have : ((kS A).take k).any (fun y => sEq y (gR A A.length (ix (kS A) k)).key) = false := any_non (take_nin (kS_nd A) h)
  rw [this]; rfl
theorem e2_0 (A B : List Rec) : enT (vA A) ((kS A).take (kS A).length) = enT (vD A B 0) (k2 A B 0) := by rw [List.take_length]; rfl
theorem thB_new {B : List Rec} {k : Nat} (h : k < (kS B).length) : thB B (k + 1) (ix (kS B) k) = am B (ix (kS B) k) B.length := by
  unfold thB
  rw [any_mem.2 (by rw [take_ix h]; simp : ix (kS B) k ∈ (kS B).take (k + 1))]; rfl
theorem thB_old {B : List Rec} {k : Nat} (h : k < (kS B).length) {s : ByteArray} (hs : s ≠ ix (kS B) k) : thB B (k + 1) s = thB B k s := by
  unfold thB
  have : ((kS B).take (k + 1)).any (fun y => sEq y s) = ((kS B).take k).any (fun y => sEq y s) := by
    rw [take_ix h, List.any_append]
    have : [ix (kS B) k].any (fun y => sEq y s) = false := any_non (by simpa using hs)
    rw [this, Bool.or_false]
  rw [this]
theorem e2_y {A B : List Rec} {k : Nat} (h : k < (netL B).length) (hp : (k2 A B k).any (fun y => sEq y (ix (netL B) k).key) = true) : mput .string (.string (ix (netL B) k).key) (.ag (eDfr ⟨(ix (netL B) k).key, (gD A B k (ix (netL B) k).key).ours, (ix (netL B) k).cents⟩)) (enT (vD A B k) (k2 A B k)) = enT (vD A B (k + 1)) (k2 A B (k + 1)) := by
  rw [netL_ix h] at hp ⊢
  rw [netL_len] at h
  have hp' : (k2 A B k).any (fun y => sEq y (ix (kS B) k)) = true := hp
  rw [show k2 A B (k + 1) = k2 A B k from adS_y hp']
  refine mput_map (ix (kS B) k) _ (vD A B k) (vD A B (k + 1)) ?_ (fun s hs => ?_) _ (k2_nd A B k) (any_mem.1 hp')
  · show DV.ag (eDfr (gD A B (k + 1) (ix (kS B) k))) = _
    unfold gD
    rw [thB_new h]; rfl
  · show DV.ag (eDfr (gD A B (k + 1) s)) = DV.ag (eDfr (gD A B k s))
    unfold gD
    rw [thB_old h hs]
theorem e2_n {A B : List Rec} {k : Nat} (h : k < (netL B).length) (hp : (k2 A B k).any (fun y => sEq y (ix (netL B) k).key) = false) : enT (vD A B k) (k2 A B k) ++ [(Value.string (ix (netL B) k).key, DV.ag (eDfr ⟨(ix (netL B) k).key, 0, (ix (netL B) k).cents⟩))] = enT (vD A B (k + 1)) (k2 A B (k + 1)) := by
  rw [netL_ix h] at hp ⊢
  rw [netL_len] at h
  have hp' : (k2 A B k).any (fun y => sEq y (ix (kS B) k)) = false := hp
  have hn : ix (kS B) k ∉ k2 A B k := fun q => by rw [any_mem.2 q] at hp'; cases hp'
  have h0 : am A (ix (kS B) k) A.length = 0 := am_0 (fun q => hn (k2_sub ((srtS_perm _).mem_iff.2 q) k))
  rw [show k2 A B (k + 1) = k2 A B k ++ [ix (kS B) k] from adS_n hp', enT_app]
  congr 1
  · exact List.map_congr_left fun s hs => by
      show _ = (Value.string s, DV.ag (eDfr (gD A B (k + 1) s)))
      rw [show gD A B (k + 1) s = gD A B k s from by unfold gD; rw [thB_old h (fun e => hn (by rw [← e]; exact hs))]]; rfl
  · show _ = [(Value.string (ix (kS B) k), DV.ag (eDfr (gD A B (k + 1) (ix (kS B) k))))]
    unfold gD
    rw [thB_new h, h0]; rfl
theorem thB_all {B : List Rec} (s : ByteArray) : thB B (kS B).length s = am B s B.length := by
  unfold thB
  rw [List.take_length]
  cases h : (kS B).any (fun y => sEq y s) with
  | true => rfl
  | false =>
    have : am B s B.length = 0 := am_0 (fun q => by have hm : s ∈ kS B := (srtS_perm _).mem_iff.2 q; rw [any_mem.2 hm] at h; cases h)
    rw [this]; rfl
/-- all keys, sorted -/
def kAll (A B : List Rec) : List ByteArray := srtS (fk (A ++ B) (A ++ B).length)
theorem k2_all (A B : List Rec) : srtS (k2 A B (kS B).length) = kAll A B := by
  refine srtS_same (k2_nd _ _ _) (fk_nd _ _) (fun x => ?_)
  rw [k2_mem _ (Nat.le_refl _), List.take_length, kS_mem, kS_mem, fk_all]
  constructor
  · rintro (⟨r, h, e⟩ | ⟨r, h, e⟩)
    · exact ⟨r, List.mem_append.2 (.inl h), e⟩
    · exact ⟨r, List.mem_append.2 (.inr h), e⟩
  · rintro ⟨r, h, e⟩
    rcases List.mem_append.1 h with h | h
    · exact .inl ⟨r, h, e⟩
    · exact .inr ⟨r, h, e⟩
theorem kAll_len (A B : List Rec) : (kAll A B).length ≤ A.length + B.length := by
  unfold kAll; rw [srtS_len]; have := fk_len (A ++ B) (A ++ B).length; rw [List.length_append] at this ⊢; exact this
def dfE (A B : List Rec) (s : ByteArray) : Dfr := ⟨s, am A s A.length, am B s B.length⟩
def dfO (A B : List Rec) (k : Nat) : List Dfr := (((kAll A B).take k).filter fun s => am A s A.length != am B s B.length).map (dfE A B)
theorem dfO_y {A B : List Rec} {k : Nat} (h : k < (kAll A B).length) (hb : (am A (ix (kAll A B) k) A.length != am B (ix (kAll A B) k) B.length) = true) : dfO A B k ++ [dfE A B (ix (kAll A B) k)] = dfO A B (k + 1) := by
  unfold dfO; rw [take_ix h, List.filter_append, List.map_append]; simp [hb]
theorem dfO_n {A B : List Rec} {k : Nat} (h : k < (kAll A B).length) (hb : (am A (ix (kAll A B) k) A.length != am B (ix (kAll A B) k) B.length) = false) : dfO A B k = dfO A B (k + 1) := by
  unfold dfO; rw [take_ix h, List.filter_append, List.map_append]; simp [hb]
theorem dfO_len (A B : List Rec) (k : Nat) : (dfO A B k).length ≤ k := by
  unfold dfO
  rw [List.length_map]
  refine Nat.le_trans (List.length_filter_le _ _) ?_
  rw [List.length_take]; omega
def dfL (A B : List Rec) : List Dfr := dfO A B (kAll A B).length
theorem dfL_len (A B : List Rec) : (dfL A B).length ≤ A.length + B.length := Nat.le_trans (dfO_len A B _) (kAll_len A B)
theorem gD_all (A B : List Rec) (s : ByteArray) : gD A B (kS B).length s = dfE A B s := by unfold gD dfE; rw [thB_all]
theorem k2_has {A B : List Rec} {k : Nat} (h : k < (kAll A B).length) : (k2 A B (kS B).length).any (fun y => sEq y (ix (kAll A B) k)) = true := by
  rw [any_mem, ← (srtS_perm _).mem_iff, k2_all]; exact ix_mem h

end Go.Proofs.Ytobgdemhadlgnaa.Wk
